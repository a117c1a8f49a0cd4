"""Placing: the body that tools make at a setting of the parameters."""

from truepart.affine import value
from truepart.bodies import Body, room_planes


def placed_body(low, high, tools, setting):
    """The body of tools, which are told as pairs of a number and a tool."""
    room = room_planes(low, high)
    placed = []
    for number, (op, sides, test) in tools:
        placed.append((number, op, [(side[0], (side[1], value(side[2], setting)), side[3]) for side in sides], test))
    found = {}
    for _, _, sides, _ in placed:
        for _, plane, _ in sides:
            if plane not in room:
                found[plane] = True
    planes = list(found) + room
    places = {plane: k for k, plane in enumerate(planes)}
    made = []
    for number, op, sides, test in placed:
        made.append((number, op, [(origin, places[plane], above) for origin, plane, above in sides], test))
    return Body(low, high, planes, made)
