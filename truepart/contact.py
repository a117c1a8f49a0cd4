"""Contact: how two bodies stand in the room of an assembly."""

from truepart.bodies import room_planes
from truepart.cells import arrange
from truepart.measures import enclosed
from truepart.numbers import plus
from truepart.planes import along
from truepart.signs import flat_among


def shifted_planes(body, shift):
    """The planes of a body that is shifted."""
    return [(normal, plus(offset, along(normal, shift))) for normal, offset in body.planes]


def inside_of(body, planes, cells):
    """Those full cells (signs, vertices) of different planes that are in a body; planes tell its own, in its order."""
    return [cell for cell in cells if body.holds(tuple([cell[0][place] for place in planes]))]


def volume_of(inside, planes, cells):
    """The volume of full cells, told by a dict of their signs, among all cells of planes."""
    parts = []
    for _, points, place, below, above in flat_among(cells):
        if (below in inside) != (above in inside):
            parts.append((points, planes[place], below in inside))
    return enclosed(parts)


def contact(first, second, shifts, low, high):
    """("clash", volume), ("touch", None) or ("apart", None) of two shifted bodies in a room."""
    room = room_planes(low, high)
    own = [shifted_planes(body, shift) for body, shift in zip((first, second), shifts)]
    planes = list({plane: True for part in own for plane in part if plane not in room}) + room
    cells = arrange(planes, low, high)
    full = [cell for cell in cells if 0 not in cell[0]]
    places = {plane: k for k, plane in enumerate(planes)}
    one, other = [inside_of(body, [places[plane] for plane in part], full)
                  for body, part in zip((first, second), own)]
    taken = {signs: True for signs, _ in other}
    both = {signs: True for signs, _ in one if signs in taken}
    if both:
        return "clash", volume_of(both, planes, cells)
    corners = {point: True for _, points in other for point in points}
    # Closures that have a point in common have a vertex in common.
    if any([point in corners for _, points in one for point in points]):
        return "touch", None
    return "apart", None
