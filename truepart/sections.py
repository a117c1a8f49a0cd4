"""Sections: the parts that a plane cuts out of the inside of a body."""

from truepart.bodies import ROOM_SIDES, Body
from truepart.faces import facet_of, pieces_of
from truepart.ordering import point_rank, scale_for_points
from truepart.segments import boundary_segments, narrowed


def with_plane(body, wall):
    """A body that is the same, with a plane among its planes."""
    if wall in body.planes:
        return body
    first = len(body.planes) - len(ROOM_SIDES)
    # The sides of the room stay the last ones, so that they move by one place.
    places = list(range(first)) + list(range(first + 1, len(body.planes) + 1))
    tools = []
    for number, op, sides, test in body.tools[:-1]:
        tools.append((number, op, [(origin, places[plane], above) for origin, plane, above in sides], test))
    return Body(body.low, body.high, body.planes[:first] + [wall] + body.planes[first:], tools)


def cut_cells(body, place):
    """The flat cells on the plane with an index that have the body on both sides, told as flat places."""
    found = []
    for signs, points, plane, below, above in body.flat_cells():
        if plane == place and body.holds(below) and body.holds(above):
            found.append((signs, points, plane, None, True))
    return found


def ordered(parts):
    """The parts of a section in their order."""
    scale = scale_for_points([point for _, corners in parts for point in corners])
    rows = []
    for k, (_, corners) in enumerate(parts):
        rows.append(([point_rank(point, scale) for point in corners], k))
    return [parts[row[1]] for row in sorted(rows)]


def section(body, wall):
    """The list of the parts (area, corners) that a plane cuts out of a body."""
    cut = with_plane(body, wall)
    flats = cut_cells(cut, cut.planes.index(wall))
    segments = boundary_segments(cut, flats)
    pieces = pieces_of(flats, segments)
    return ordered([facet_of(cut, piece, narrowed(segments, piece[2])) for piece in pieces])
