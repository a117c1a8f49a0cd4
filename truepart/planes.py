"""Planes: pairs (normal, offset) of a canonical direction and a fraction."""

from truepart.numbers import fraction
from truepart.products import inner, outer, reach, reach_ratio, sign_of
from truepart.vectors import plane_of, primitive, volume


def dot(a, b):
    """The product of two directions, an integer."""
    return inner(a, b)


def cross(a, b):
    """The cross product of two directions."""
    return outer(a, b)


def triple(a, b, c):
    """The triple product of three directions, an integer."""
    return volume(a, b, c)


def is_parallel(a, b):
    """Whether two directions are parallel."""
    return outer(a, b) == (0, 0, 0)


def canonical(direction):
    """The canonical direction of a direction."""
    return primitive(direction)[0]


def divisor(direction):
    """The integer by which the canonical direction is multiplied in a direction."""
    return primitive(direction)[1]


def plane(direction, offset):
    """The plane of a direction and an offset."""
    return plane_of(direction, offset)[0]


def along(direction, point):
    """The product of a direction and a point, a fraction."""
    return reach(direction, point)


def side(wall, point):
    """-1, 0 or 1, as a point is below, on or above a plane."""
    normal, (least, under) = wall
    number, divisor = reach_ratio(normal, point)
    return sign_of(number * under - least * divisor)


def sides(walls, point):
    """The tuple of the sides of a point at a list of planes."""
    return tuple([side(wall, point) for wall in walls])


def independent(normals):
    """How many of the directions of a list are independent."""
    kept = []
    for normal in normals:
        if len(kept) == 2 and volume(kept[0], kept[1], normal) != 0:
            return 3
        if not kept or (len(kept) == 1 and not is_parallel(kept[0], normal)):
            kept.append(normal)
    return len(kept)


def meeting(first, second, third):
    """The point at which three planes meet, or None if their normals are not independent."""
    a, b, c = first[0], second[0], third[0]
    size = volume(a, b, c)
    if size == 0:
        return None
    offsets = (first[1], second[1], third[1])
    # Cramer's rule: each part of the point is a sum of multiples of the offsets, over the triple product.
    parts = [reach(row, offsets) for row in zip(outer(b, c), outer(c, a), outer(a, b))]
    return tuple([fraction(part[0], part[1] * size) for part in parts])
