"""Meshes: the places between planes of all kinds, found by a look at each cell."""

from truepart.signs import flat_among


def numbered_places(flats):
    """A dict from the signs of each place beside flat cells to its number."""
    found = {}
    for _, _, _, below, above in flats:
        found.setdefault(below, len(found))
        found.setdefault(above, len(found))
    return found


def places_above(places, many):
    """For each of so many planes the places above it; the dict tells the numbers of all places."""
    found = [0] * many
    for signs, number in places.items():
        for k, sign in enumerate(signs):
            if sign > 0:
                found[k] |= 1 << number
    return found


def planes_by_vertex(cells):
    """A dict from each vertex to the planes on which it lies, as the bits of an integer."""
    found = {}
    for signs, points in cells:
        if len(points) == 1:
            found[points[0]] = sum([1 << k for k, sign in enumerate(signs) if sign == 0])
    return found


class Mesh:
    """The places on no plane that planes make, within the room and next to it.

    Places have numbers. Many places at once are told by an integer: it has the bits with their numbers.
    """

    def __init__(self, many, cells):
        flats = flat_among(cells)
        places = numbered_places(flats)
        self.known = cells
        self.whole = (1 << len(places)) - 1
        self.above = places_above(places, many)
        self.flat = []
        for signs, points, plane, below, above in flats:
            self.flat.append((signs, points, plane, places[below], places[above]))
        self.vertices = planes_by_vertex(cells)

    def flats(self, inside):
        """The flat cells with one place inside beside them and one not: (signs, vertices, plane, below, above)."""
        return [row for row in self.flat if ((inside >> row[3]) ^ (inside >> row[4])) & 1]

    def planes_through(self, point):
        """The planes on which a vertex lies, as the bits of an integer."""
        return self.vertices[point]

    def all_cells(self):
        """The list of all cells as pairs of sides and vertices, in ascending order of the sides."""
        return self.known
