"""Measures: areas, lengths and volumes, as fractions."""

from math import lcm
from truepart.cells import in_order
from truepart.numbers import ZERO, fraction, minus, over, plus, times
from truepart.products import inner, reach


def on_one_divisor(points):
    """Points as triples of integers, and the divisor that belongs to all of them."""
    shared = 1
    for point in points:
        for part in point:
            shared = lcm(shared, part[1])
    return [tuple([part[0] * (shared // part[1]) for part in point]) for point in points], shared


def turn(a, b, c):
    """Twice the area of three pairs, above 0 if the way from the first to the third turns left at the second."""
    return (b[0] - a[0]) * (c[1] - a[1]) - (b[1] - a[1]) * (c[0] - a[0])


def around(corners):
    """The corners of a convex polygon, pairs in an order along some line, in the order of going around to the left."""
    first, last = corners[0], corners[-1]
    between = corners[1:-1]
    right = [corner for corner in between if turn(first, last, corner) < 0]
    left = [corner for corner in between if turn(first, last, corner) >= 0]
    return [first] + right + [last] + left[::-1]


def polygon_area(corners, normal):
    """The area of a flat convex polygon on a plane with this normal, over the length of the normal."""
    triples, divisor = on_one_divisor(in_order(corners))
    # Seen along an axis that is not in the plane, the polygon is a shadow whose area tells its own.
    axis = [k for k in range(3) if normal[k] != 0][0]
    shadow = around([(triple[axis - 2], triple[axis - 1]) for triple in triples])
    twice = sum([turn((0, 0), a, b) for a, b in zip(shadow, shadow[1:] + shadow[:1])])
    return fraction(twice, 2 * divisor * divisor * abs(normal[axis]))


def area_of(polygons, normal):
    """The area of flat convex polygons on planes with this normal together, over the length of the normal."""
    found = ZERO
    for corners in polygons:
        found = plus(found, polygon_area(corners, normal))
    return found


def length_of(direction, start, end):
    """The length from a point to another one along a direction, over the length of the direction."""
    return over(minus(reach(direction, end), reach(direction, start)), fraction(inner(direction, direction)))


def enclosed(parts):
    """The volume that flat convex polygons enclose: tuples (corners, plane, whether the inside is below it)."""
    found = ZERO
    for corners, (normal, offset), is_below in parts:
        share = times(polygon_area(corners, normal), offset)
        found = plus(found, share) if is_below else minus(found, share)
    return over(found, fraction(3))


def volume(body):
    """The volume of a body."""
    return enclosed([(points, body.planes[place], is_below) for _, points, place, _, is_below in body.flats()])
