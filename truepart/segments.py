"""Segments of the boundary of a body, and the flat places at them."""

from truepart.planes import canonical, cross, dot
from truepart.products import sign_of, turned
from truepart.stars import replaced


def signs_beside(normals, step):
    """The signs that the places beside a line have at planes through it, behind a step from the line."""
    return tuple([sign_of(dot(normal, step)) for normal in normals])


def leaves_at_line(normals):
    """The direction of the line in which planes meet, and the parts of the planes at it.

    The parts are told as pairs of the signs at the planes and the side of the line.
    """
    direction = canonical(cross(normals[0], normals[1]))
    found = []
    for normal in normals:
        step = cross(normal, direction)
        found.append((signs_beside(normals, step), 1))
        found.append((signs_beside(normals, turned(step)), -1))
    return direction, found


def flats_with(body, origins):
    """The flat places of a body that have one of these origins."""
    wanted = {origin: True for origin in origins}
    return [flat for flat in body.flats() if flat[3] in wanted]


def boundary_segments(body, flats):
    """The segments in the closure of flat places: tuples (signs, vertices, direction, flat places there).

    The flat places there are told as pairs of a flat place and its side of the line.
    """
    known = {flat[0]: flat for flat in flats}
    lines = {}
    found = []
    for signs, points in body.cells:
        # A cell has two vertices if and only if its dimension is 1.
        if len(points) == 2:
            on = tuple([k for k, sign in enumerate(signs) if sign == 0])
            if on not in lines:
                lines[on] = leaves_at_line([body.planes[k][0] for k in on])
            direction, leaves = lines[on]
            there = [(replaced(signs, on, leaf), side) for leaf, side in leaves]
            at = [(known[place], side) for place, side in there if place in known]
            if at:
                found.append((signs, list(points), direction, at))
    return found


def narrowed(segments, flats):
    """The segments in the closure of some of the flat places only, with those of them that are there."""
    known = {flat[0]: True for flat in flats}
    found = []
    for signs, points, direction, at in segments:
        there = [(flat, side) for flat, side in at if flat[0] in known]
        if there:
            found.append((signs, points, direction, there))
    return found
