"""Bodies: what tools, one behind the other, make within a room."""

from truepart.areas import joined_parts
from truepart.cells import arrange, walls
from truepart.stars import replaced

ROOM_SIDES = ("xl", "xh", "yl", "yh", "zl", "zh")


def room_planes(low, high):
    """The six planes of a room, in order."""
    return walls(low, high)


def room_tool(first):
    """The tool of the room, whose planes have the indexes from the first one on."""
    # The low and the high sides take turns; the room is above the low ones.
    sides = [((0, (), name), first + k, k in (0, 2, 4)) for k, name in enumerate(ROOM_SIDES)]
    test = ("side", 0)
    for k in range(1, len(ROOM_SIDES)):
        test = ("both", test, ("side", k))
    return (0, "keep", sides, test)


def halves_of(sides, signs):
    """For each side whether a place with these signs is in its half."""
    return [(signs[plane] > 0) == above for _, plane, above in sides]


def holds_in(test, halves):
    """Whether a test holds of a place that is in these halves."""
    kind = test[0]
    if kind == "side":
        return halves[test[1]]
    if kind == "not":
        return not holds_in(test[1], halves)
    found = [holds_in(part, halves) for part in joined_parts(test)]
    return all(found) if kind == "both" else any(found)


def test_holds(test, sides, signs):
    """Whether a place with these signs is in a tool with these sides and this test."""
    return holds_in(test, halves_of(sides, signs))


def after_tool(op, state, there):
    """Whether a place is in the body behind a tool."""
    if op == "add":
        return state or there
    if op == "cut":
        return state and not there
    return state and there


def is_changed(states, k):
    """Whether the tool with an index changed a place that was or was not in the body behind each tool."""
    return states[k] != (k > 0 and states[k - 1])


class Body:
    """What tools make within a room, with its cells."""

    def __init__(self, low, high, planes, tools):
        self.low = low
        self.high = high
        self.planes = list(planes)
        self.tools = [(number, op, list(sides), test) for number, op, sides, test in tools]
        self.tools.append(room_tool(len(self.planes) - len(ROOM_SIDES)))
        self.cells = arrange(self.planes, low, high)
        self.known = {}
        self.ends = None

    def states(self, signs):
        """For each tool whether a place is in the body behind it."""
        # Kept, since each place is next to several flat cells.
        if signs not in self.known:
            found = []
            state = False
            for _, op, sides, test in self.tools:
                state = after_tool(op, state, test_holds(test, sides, signs))
                found.append(state)
            self.known[signs] = found
        return self.known[signs]

    def holds(self, signs):
        """Whether a place is in the body."""
        return self.states(signs)[-1]

    def beside(self, signs, plane):
        """The signs below and above the plane with this index."""
        return (replaced(signs, [plane], [-1]), replaced(signs, [plane], [1]))

    def maker(self, below, above):
        """The index of the last tool that changed one of two places, or None."""
        first, second = self.states(below), self.states(above)
        for k in reversed(range(len(self.tools))):
            if is_changed(first, k) or is_changed(second, k):
                return k
        return None

    def side(self, below, above, plane):
        """The origin of the maker's side at the plane with this index between two places, or None."""
        maker = self.maker(below, above)
        if maker is None:
            return None
        _, _, sides, test = self.tools[maker]
        halves = halves_of(sides, below)
        there = holds_in(test, halves)
        for k, side in enumerate(sides):
            if side[1] == plane:
                halves[k] = not halves[k]
                if holds_in(test, halves) != there:
                    return side[0]
        return None

    def flat_cells(self):
        """The cells with exactly one sign 0: tuples (signs, vertices, index of the plane, signs below, signs above)."""
        found = []
        for signs, points in self.cells:
            if signs.count(0) == 1:
                plane = signs.index(0)
                below, above = self.beside(signs, plane)
                found.append((signs, list(points), plane, below, above))
        return found

    def flats_found(self):
        """The flat places, as flats returns them."""
        found = []
        for signs, points, plane, below, above in self.flat_cells():
            is_below = self.holds(below)
            if is_below != self.holds(above):
                found.append((signs, points, plane, self.side(below, above, plane), is_below))
        return found

    def flats(self):
        """The flat places: tuples (signs, vertices, index of the plane, origin, whether the body is below)."""
        # Kept, since faces, edges and corners all go out from them.
        if self.ends is None:
            self.ends = self.flats_found()
        return [(signs, list(points), plane, origin, below) for signs, points, plane, origin, below in self.ends]

    def solid_cells(self):
        """The cells (signs, vertices) with no sign 0 that are in the body."""
        return [(signs, list(points)) for signs, points in self.cells if 0 not in signs and self.holds(signs)]
