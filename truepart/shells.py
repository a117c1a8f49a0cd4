"""Shells: the boundaries of bodies, found for all places at once."""

from truepart.areas import joined_parts
from truepart.cells import arrange
from truepart.grids import Grid
from truepart.makers import turned_side
from truepart.meshes import Mesh
from truepart.products import AXES


def laid_out(low, high, planes):
    """The places that the planes of a body make, those of the room last."""
    if all([normal in AXES for normal, _ in planes]):
        return Grid(planes)
    return Mesh(len(planes), arrange(planes, low, high))


def places_in(test, halves, whole):
    """Those of all places of which a test holds; the halves tell the places in the half of each side."""
    kind = test[0]
    if kind == "side":
        return halves[test[1]]
    if kind == "not":
        return whole ^ places_in(test[1], halves, whole)
    first, *others = [places_in(part, halves, whole) for part in joined_parts(test)]
    for other in others:
        first = first & other if kind == "both" else first | other
    return first


def places_after(op, inside, there):
    """The places in the body behind a tool, of those in front of it and those in the tool."""
    if op == "add":
        return inside | there
    if op == "cut":
        return inside ^ (inside & there)
    return inside & there


def is_set(mask, place):
    """Whether a place is among places."""
    return (mask >> place) & 1 == 1


class Shell:
    """The boundary of what tools, that of the room the last one, make within a room."""

    def __init__(self, low, high, planes, tools):
        self.planes = planes
        self.tools = tools
        self.layout = laid_out(low, high, planes)
        self.inside = 0
        self.changed = []
        self.found = None
        for tool in tools:
            self.take(tool)

    def take(self, tool):
        """Lets a tool, behind the others, change which places are inside."""
        _, op, sides, test = tool
        whole, above = self.layout.whole, self.layout.above
        halves = [above[plane] if upper else whole ^ above[plane] for _, plane, upper in sides]
        inside = places_after(op, self.inside, places_in(test, halves, whole))
        self.changed.append(self.inside ^ inside)
        self.inside = inside

    def maker(self, below, above):
        """The last tool that changed one of two places."""
        pair = (1 << below) | (1 << above)
        return self.tools[max([k for k, changed in enumerate(self.changed) if changed & pair])]

    def is_in(self, side, place):
        """Whether a place is in the half of a side."""
        return is_set(self.layout.above[side[1]], place) == side[2]

    def origin(self, plane, below, above):
        """The origin of the flat place on a plane between two places."""
        _, _, sides, test = self.maker(below, above)
        there = [side[0] for side in sides if side[1] == plane]
        # Only one of the two places is in the maker, and only sides on this plane tell them apart.
        if len(there) == 1:
            return there[0]
        return turned_side(sides, test, [self.is_in(side, below) for side in sides], plane)

    def flats(self):
        """The flat places: tuples (signs, vertices, index of the plane, origin, whether the body is below)."""
        # Kept, since faces, edges and corners all go out from them.
        if self.found is None:
            self.found = []
            for signs, points, plane, below, above in self.layout.flats(self.inside):
                is_below = is_set(self.inside, below)
                self.found.append((signs, points, plane, self.origin(plane, below, above), is_below))
        return self.found

    def planes_through(self, point):
        """The planes on which a vertex lies, as the bits of an integer."""
        return self.layout.planes_through(point)

    def all_cells(self):
        """The list of all cells as pairs of sides and vertices, in ascending order of the sides."""
        return self.layout.all_cells()
