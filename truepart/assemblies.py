"""Assemblies: parts in a room, and the mates that tell where they are."""

from truepart.contact import contact
from truepart.equations import settle, worth_of
from truepart.errors import Beyond, Full, Taken, Unknown, Unplaced
from truepart.names import itself, look
from truepart.nametexts import read_name
from truepart.numbers import ZERO, fraction, minus, plus
from truepart.products import AXES

MOST_PARTS = 4
MOST_MATES = 16


def plane_under(body, name):
    """The plane of the plane or face to which a name goes in a body, or None."""
    state, thing = look(body, name, itself(name))
    if state != "found" or name[0] not in ("plane", "face", "piece"):
        return None
    return body.planes[thing if name[0] == "plane" else thing[0]]


def corner_under(body, name):
    """The corner to which a name goes in a body, or None."""
    state, thing = look(body, name, itself(name))
    return thing if state == "found" and name[0] == "corner" else None


def row_of(many, parts, normal, bound):
    """The equation that a normal's product with the first shift less that with the second one is a bound."""
    row = [ZERO] * (3 * many)
    for axis in range(3):
        row[3 * parts[0] + axis] = fraction(normal[axis])
        row[3 * parts[1] + axis] = fraction(-normal[axis])
    # The first part is not shifted.
    return row[3:], bound


def flush_rows(many, parts, bodies, names, gap):
    """The list of the one equation of a flush; empty if it says nothing."""
    first, second = [plane_under(body, name) for body, name in zip(bodies, names)]
    if first is None or second is None or first[0] != second[0]:
        return []
    return [row_of(many, parts, first[0], plus(minus(second[1], first[1]), gap))]


def meet_rows(many, parts, bodies, names):
    """The list of the three equations of a meet; empty if it says nothing."""
    first, second = [corner_under(body, name) for body, name in zip(bodies, names)]
    if first is None or second is None:
        return []
    return [row_of(many, parts, axis, minus(b, a)) for axis, a, b in zip(AXES, first, second)]


class Assembly:
    """Parts in a room, and mates between them."""

    def __init__(self, low, high):
        self.low = low
        self.high = high
        self.parts = []
        self.mates = []
        self.last_mate = 0

    def put_in(self, name, body):
        """Puts a body in as a part."""
        if name in self.part_names():
            raise Taken(f"there is a part {name}")
        if len(self.parts) == MOST_PARTS:
            raise Full(f"there are {MOST_PARTS} parts")
        self.parts.append((name, body))

    def part_names(self):
        """The list of the names of the parts."""
        return [name for name, _ in self.parts]

    def pair(self, first, second):
        """The indexes of two different parts."""
        names = self.part_names()
        for name in (first, second):
            if name not in names:
                raise Unknown(f"there is no part {name}")
        if first == second:
            raise Beyond(f"{first} comes twice")
        return (names.index(first), names.index(second))

    def add_mate(self, kind, parts, names, gap):
        """Puts a mate behind the others; returns its number."""
        if len(self.mates) == MOST_MATES:
            raise Full(f"there are {MOST_MATES} mates")
        self.last_mate += 1
        self.mates.append((self.last_mate, kind, parts, names, gap))
        return self.last_mate

    def flush(self, first, one, second, other, *, gap=(0, 1)):
        """Lets two planes lie at a gap; returns the number of the mate."""
        names = (read_name(one), read_name(other))
        return self.add_mate("flush", self.pair(first, second), names, gap)

    def meet(self, first, one, second, other):
        """Lets two corners meet; returns the number of the mate."""
        names = (read_name(one), read_name(other))
        return self.add_mate("meet", self.pair(first, second), names, ZERO)

    def unmate(self, number):
        """Takes the mate with a number away."""
        left = [mate for mate in self.mates if mate[0] != number]
        if len(left) == len(self.mates):
            raise Unknown(f"there is no mate {number}")
        self.mates = left

    def rows(self, mate):
        """The equations of a mate; none if it says nothing."""
        _, kind, parts, names, gap = mate
        bodies = [self.parts[at][1] for at in parts]
        if kind == "flush":
            return flush_rows(len(self.parts), parts, bodies, names, gap)
        return meet_rows(len(self.parts), parts, bodies, names)

    def shifts(self, kept):
        """The shifts of the parts by the equations that were kept; a part that is not determined is None."""
        found = [(ZERO,) * 3]
        for k in range(len(self.parts) - 1):
            shift = tuple([worth_of(kept, 3 * k + axis) for axis in range(3)])
            found.append(None if None in shift else shift)
        return found[:len(self.parts)]

    def places(self):
        """Where the parts are: ("waits" or "conflict", numbers), ("free", names) or ("placed", shifts)."""
        told = [(mate[0], self.rows(mate)) for mate in self.mates]
        silent = [number for number, rows in told if not rows]
        if silent:
            return "waits", silent
        rows = [row for _, part in told for row in part]
        numbers = [number for number, part in told for _ in part]
        state, found = settle(rows, 3 * max(0, len(self.parts) - 1))
        if state == "conflict":
            return "conflict", sorted(set([numbers[k] for k in found]))
        shifts = self.shifts(found)
        free = [name for name, shift in zip(self.part_names(), shifts) if shift is None]
        if free:
            return "free", free
        return "placed", shifts

    def contact_of(self, first, second):
        """What contact tells of two parts."""
        one, other = self.pair(first, second)
        state, shifts = self.places()
        if state != "placed":
            raise Unplaced(f"the parts are {state}")
        return contact(self.parts[one][1], self.parts[other][1], [shifts[one], shifts[other]], self.low, self.high)
