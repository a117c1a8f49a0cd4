"""Bodies: what tools, one behind the other, make within a room."""

from truepart.cells import walls
from truepart.makers import halves_of, holds_in, turned_side
from truepart.shells import Shell
from truepart.signs import flat_among, signs_beside

ROOM_SIDES = ("xl", "xh", "yl", "yh", "zl", "zh")


def room_planes(low, high):
    """The six planes of a room, in order."""
    return walls(low, high)


def room_tool(first):
    """The tool of the room, whose planes have the indexes from the first one on."""
    # The low and the high sides take turns; the room is above the low ones.
    sides = [((0, (), name), first + k, k in (0, 2, 4)) for k, name in enumerate(ROOM_SIDES)]
    test = ("side", 0)
    for k in range(1, len(ROOM_SIDES)):
        test = ("both", test, ("side", k))
    return (0, "keep", sides, test)


def with_room(planes, tools):
    """Tools, in a new list, with that of the room behind them; the last planes are those of the room."""
    found = [(number, op, list(sides), test) for number, op, sides, test in tools]
    return found + [room_tool(len(planes) - len(ROOM_SIDES))]


def test_holds(test, sides, signs):
    """Whether a place with these signs is in a tool with these sides and this test."""
    return holds_in(test, halves_of(sides, signs))


def after_tool(op, state, there):
    """Whether a place is in the body behind a tool."""
    if op == "add":
        return state or there
    if op == "cut":
        return state and not there
    return state and there


def is_changed(states, k):
    """Whether the tool with an index changed a place that was or was not in the body behind each tool."""
    return states[k] != (k > 0 and states[k - 1])


class Body:
    """What tools make within a room, with its cells."""

    def __init__(self, low, high, planes, tools):
        self.low = low
        self.high = high
        self.planes = list(planes)
        self.tools = with_room(self.planes, tools)
        self.bounds = Shell(low, high, self.planes, self.tools)
        self.cells = self.bounds.all_cells()
        self.known = {}

    def states(self, signs):
        """For each tool whether a place is in the body behind it."""
        # Kept, since each place is next to several flat cells.
        if signs not in self.known:
            found = []
            state = False
            for _, op, sides, test in self.tools:
                state = after_tool(op, state, test_holds(test, sides, signs))
                found.append(state)
            self.known[signs] = found
        return self.known[signs]

    def holds(self, signs):
        """Whether a place is in the body."""
        return self.states(signs)[-1]

    def beside(self, signs, plane):
        """The signs below and above the plane with this index."""
        return signs_beside(signs, plane)

    def maker(self, below, above):
        """The index of the last tool that changed one of two places, or None."""
        first, second = self.states(below), self.states(above)
        for k in reversed(range(len(self.tools))):
            if is_changed(first, k) or is_changed(second, k):
                return k
        return None

    def side(self, below, above, plane):
        """The origin of the maker's side at the plane with this index between two places, or None."""
        maker = self.maker(below, above)
        if maker is None:
            return None
        _, _, sides, test = self.tools[maker]
        return turned_side(sides, test, halves_of(sides, below), plane)

    def flat_cells(self):
        """The cells with exactly one sign 0: tuples (signs, vertices, index of the plane, signs below, signs above)."""
        return flat_among(self.cells)

    def flats(self):
        """The flat places: tuples (signs, vertices, index of the plane, origin, whether the body is below)."""
        found = self.bounds.flats()
        return [(signs, list(points), plane, origin, below) for signs, points, plane, origin, below in found]

    def planes_through(self, point):
        """The planes on which a vertex lies, as the bits of an integer."""
        return self.bounds.planes_through(point)

    def solid_cells(self):
        """The cells (signs, vertices) with no sign 0 that are in the body."""
        return [(signs, list(points)) for signs, points in self.cells if 0 not in signs and self.holds(signs)]
