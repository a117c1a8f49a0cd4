"""Fronts: the tools of the features that were made so far, and the body that they make."""

from truepart.affine import constant
from truepart.bodies import ROOM_SIDES, room_planes
from truepart.placing import body_of, placed_tool, shell_of


def room_walls(low, high, many):
    """The sides of a room as walls (origin, normal, value), among so many parameters."""
    found = []
    for name, (normal, offset) in zip(ROOM_SIDES, room_planes(low, high)):
        found.append(((0, (), name), normal, constant(offset, many)))
    return found


class Front:
    """The tools of the features that were made so far at a setting, within a room."""

    def __init__(self, low, high, setting):
        self.low = low
        self.high = high
        self.setting = list(setting)
        self.tools = []
        self.placed = []
        self.standing = None
        self.bounds = None

    def take(self, number, tools):
        """Takes the tools of the feature with a number, behind the others."""
        for tool in tools:
            self.tools.append((number, tool))
            self.placed.append(placed_tool(number, tool, self.setting))
            self.standing = None
            self.bounds = None

    def tools_of(self, number):
        """The tools of the feature with a number; none if it is not made."""
        return [tool for maker, tool in self.tools if maker == number]

    def walls(self):
        """The sides of all tools, and of the room behind them, as walls (origin, normal, value)."""
        found = []
        for _, (_, sides, _) in self.tools:
            for origin, normal, offset, _ in sides:
                found.append((origin, normal, offset))
        return found + room_walls(self.low, self.high, len(self.setting))

    def shell(self):
        """The boundary of the body that the tools make."""
        # Kept until tools come, since several names can be looked for in it.
        if self.bounds is None:
            self.bounds = shell_of(self.low, self.high, self.placed)
        return self.bounds

    def body(self):
        """The body that the tools make."""
        # Kept until tools come, since it is asked for again along a way.
        if self.standing is None:
            self.standing = body_of(self.low, self.high, self.placed)
        return self.standing
