"""Placing: the body that tools make at a setting of the parameters."""

from truepart.affine import value
from truepart.bodies import Body, room_planes, with_room
from truepart.shells import Shell


def placed_tool(number, tool, setting):
    """A tool at a setting: (number, op, sides, test), a side being (origin, plane, above)."""
    op, sides, test = tool
    return (number, op, [(side[0], (side[1], value(side[2], setting)), side[3]) for side in sides], test)


def by_planes(low, high, placed):
    """The different planes of tools at a setting, those of the room last, and the tools with indexes of planes."""
    room = room_planes(low, high)
    found = {}
    for _, _, sides, _ in placed:
        for _, plane, _ in sides:
            if plane not in room:
                found[plane] = True
    planes = list(found) + room
    places = {plane: k for k, plane in enumerate(planes)}
    made = []
    for number, op, sides, test in placed:
        made.append((number, op, [(origin, places[plane], above) for origin, plane, above in sides], test))
    return planes, made


def body_of(low, high, placed):
    """The body of tools at a setting."""
    planes, tools = by_planes(low, high, placed)
    return Body(low, high, planes, tools)


def shell_of(low, high, placed):
    """The boundary of the body of tools at a setting."""
    planes, tools = by_planes(low, high, placed)
    return Shell(low, high, planes, with_room(planes, tools))


def placed_body(low, high, tools, setting):
    """The body of tools, which are told as pairs of a number and a tool."""
    return body_of(low, high, [placed_tool(number, tool, setting) for number, tool in tools])
