"""Segments of the boundary of a body, and the flat places at them."""

from itertools import combinations
from truepart.grids import bits_of
from truepart.planes import canonical, cross, dot
from truepart.products import sign_of
from truepart.signs import replaced


def line_between(one, other):
    """The direction of the line in which planes with two normals meet, and a side of the line.

    It is the side on which the places of the first plane are that are above the second one.
    """
    direction = canonical(cross(one, other))
    return direction, sign_of(dot(other, cross(one, direction)))


def flats_with(body, origins):
    """The flat places of a body that have one of these origins."""
    wanted = {origin: True for origin in origins}
    return [flat for flat in body.flats() if flat[3] in wanted]


def segments_at(body, flat):
    """The segments in the closure of a flat place: tuples (signs, vertices, index of another plane through it)."""
    signs, points, plane = flat[:3]
    known = [(point, body.planes_through(point)) for point in points]
    found = []
    for (a, first), (b, last) in combinations(known, 2):
        # The flat place is convex; so its vertices have another plane in common if and only if they end a segment.
        others = bits_of((first & last) ^ (1 << plane))
        if others:
            found.append((replaced(signs, others, [0] * len(others)), [a, b], others[0]))
    return found


def boundary_segments(body, flats):
    """The segments in the closure of flat places: tuples (signs, vertices, direction, flat places there).

    The flat places there are told as pairs of a flat place and its side of the line.
    """
    lines = {}
    found = {}
    for flat in flats:
        plane = flat[2]
        for signs, points, other in segments_at(body, flat):
            if (plane, other) not in lines:
                lines[(plane, other)] = line_between(body.planes[plane][0], body.planes[other][0])
            direction, side = lines[(plane, other)]
            row = found.setdefault(signs, (signs, points, direction, []))
            row[3].append((flat, side * flat[0][other]))
    return [found[signs] for signs in sorted(found)]


def narrowed(segments, flats):
    """The segments in the closure of some of the flat places only, with those of them that are there."""
    known = {flat[0]: True for flat in flats}
    found = []
    for signs, points, direction, at in segments:
        there = [(flat, side) for flat, side in at if flat[0] in known]
        if there:
            found.append((signs, points, direction, there))
    return found
