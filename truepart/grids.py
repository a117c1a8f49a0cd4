"""Grids: the places between planes that are square to the axes, found without a look at each cell."""

from math import lcm
from truepart.products import AXES, sign_of

ROOM_PLANES = 6


def bits_of(mask):
    """The list of the bits that are set in an integer, ascending."""
    found = []
    while mask:
        last = mask & -mask
        found.append(last.bit_length() - 1)
        mask ^= last
    return found


def heights_along(planes, axis):
    """A dict from the index of each plane square to an axis to an integer that stands for its offset."""
    rows = {k: offset for k, (normal, offset) in enumerate(planes) if normal == AXES[axis]}
    shared = 1
    for offset in rows.values():
        shared = lcm(shared, offset[1])
    return {k: number * (shared // divisor) for k, (number, divisor) in rows.items()}


class Ruler:
    """The planes square to an axis, as marks where they stand within the room; the last six planes are the room's.

    Along the axis are positions: 2 * k + 1 is on the mark k, 2 * k in front of it. So 0 is in front of the room, and
    the last one is behind it.
    """

    def __init__(self, planes, axis):
        heights = heights_along(planes, axis)
        first = len(planes) - ROOM_PLANES + 2 * axis
        low, high = heights[first], heights[first + 1]
        marks = sorted(set([height for height in heights.values() if low <= height <= high]))
        self.many = len(planes)
        self.size = len(marks) + 1
        self.offsets = [None] * len(marks)
        self.there = [[] for _ in marks]
        self.spots = {}
        for k, height in heights.items():
            if low <= height <= high:
                mark = marks.index(height)
                self.offsets[mark] = planes[k][1]
                self.there[mark].append(k)
                self.spots[k] = 2 * mark + 1
            else:
                # All positions are on one side of a plane that misses the room, even those next to the room.
                self.spots[k] = -1 if height < low else 2 * len(marks) + 1
        self.rows = [self.signs_at(position) for position in range(2 * len(marks) + 1)]

    def signs_at(self, position):
        """The signs that a position has at all planes, 0 at those that are not square to the axis."""
        row = [0] * self.many
        for k, spot in self.spots.items():
            row[k] = sign_of(position - spot)
        return row

    def span(self, position):
        """The first mark at the ends of a position within the room, and the mark behind the last one."""
        return (position - 1) // 2, position // 2 + 1

    def key_at(self, position):
        """A number whose sum over the axes tells which signs, compared from the first plane on, stand first."""
        found = 0
        for sign in self.rows[position]:
            found = 3 * found + sign
        return found

    def steps(self):
        """The positions within the room, ascending: tuples (key, first mark, end of the marks, planes, sign).

        The planes are those at which the position in front has another sign: it is 0 on their mark and 1 behind it.
        """
        found = []
        for position in range(1, 2 * len(self.there)):
            first, end = self.span(position)
            found.append((self.key_at(position), first, end, self.there[first], 1 - position % 2))
        return found


class Grid:
    """The places on no plane that planes square to the axes make, within the room and next to it.

    Places have numbers, those along the last axis one behind the other. Many places at once are told by an integer: it
    has the bits with their numbers.
    """

    def __init__(self, planes):
        self.rulers = [Ruler(planes, axis) for axis in range(len(AXES))]
        long, wide, high = [ruler.size for ruler in self.rulers]
        self.strides = [wide * high, high, 1]
        self.whole = (1 << (long * wide * high)) - 1
        self.above = self.places_above(len(planes))

    def places_above(self, many):
        """For each of so many planes the places above it."""
        found = [0] * many
        for ruler, stride in zip(self.rulers, self.strides):
            block = (1 << (ruler.size * stride)) - 1
            # What is so along one axis is so again at each position of the axes in front of it.
            again = self.whole // block
            for k, spot in ruler.spots.items():
                front = (1 << ((spot + 1) // 2 * stride)) - 1
                found[k] = (block ^ front) * again
        return found

    def positions_of(self, place):
        """The positions of a place on the axes."""
        found = []
        for stride in self.strides:
            at, place = divmod(place, stride)
            found.append(2 * at)
        return found

    def signs_at(self, positions):
        """The signs of the cell with these positions on the axes."""
        first, second, third = [ruler.rows[position] for ruler, position in zip(self.rulers, positions)]
        return tuple([a + b + c for a, b, c in zip(first, second, third)])

    def points_at(self, positions):
        """The vertices of the cell with these positions on the axes."""
        parts = []
        for ruler, position in zip(self.rulers, positions):
            first, end = ruler.span(position)
            parts.append(ruler.offsets[first:end])
        xs, ys, zs = parts
        return [(x, y, z) for x in xs for y in ys for z in zs]

    def flats(self, inside):
        """The flat cells with one place inside beside them and one not: (signs, vertices, plane, below, above)."""
        found = []
        for axis, stride in enumerate(self.strides):
            # Places next to the room are never inside; so nothing goes on from the end of one row to the next one.
            for below in bits_of(inside ^ (inside >> stride)):
                positions = self.positions_of(below)
                plane = self.rulers[axis].there[positions[axis] // 2][0]
                positions[axis] += 1
                found.append((self.signs_at(positions), self.points_at(positions), plane, below, below + stride))
        return sorted(found)

    def planes_through(self, point):
        """The planes on which a vertex lies, as the bits of an integer."""
        found = 0
        for ruler, part in zip(self.rulers, point):
            for k in ruler.there[ruler.offsets.index(part)]:
                found |= 1 << k
        return found

    def columns(self):
        """For each mark of the first axis, and each one of the second, the row of the vertices along the last axis."""
        xs, ys, zs = [ruler.offsets for ruler in self.rulers]
        return [[[(x, y, z) for z in zs] for y in ys] for x in xs]

    def all_cells(self):
        """The list of all cells as pairs of sides and vertices, in ascending order of the sides."""
        columns = self.columns()
        xs, ys, zs = [ruler.steps() for ruler in self.rulers]
        row = list(self.signs_at([0, 0, 0]))
        found = {}
        # From each cell to the next one only the signs that change are set, since there are very many cells.
        for key_x, low_x, high_x, met_x, sign_x in xs:
            for k in met_x:
                row[k] = sign_x
            line = list(row)
            for key_y, low_y, high_y, met_y, sign_y in ys:
                for k in met_y:
                    line[k] = sign_y
                signs = list(line)
                first, *others = [column for part in columns[low_x:high_x] for column in part[low_y:high_y]]
                for key_z, low_z, high_z, met_z, sign_z in zs:
                    for k in met_z:
                        signs[k] = sign_z
                    points = first[low_z:high_z]
                    for column in others:
                        points += column[low_z:high_z]
                    found[key_x + key_y + key_z] = (tuple(signs), points)
        return [found[key] for key in sorted(found)]
