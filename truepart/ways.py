"""Ways: straight lines from one setting of the parameters of a document to another one, and their stages."""

from math import lcm
from truepart.affine import add, scale, value
from truepart.circuits import circuits
from truepart.errors import Beyond, Stuck, Unknown
from truepart.making import front_of
from truepart.numbers import ONE, ZERO, fraction, less, middle, minus, over, plus, times
from truepart.ordering import rank, scale_for

MOST_LOOKS = 40
MOST_STAGES = 40


def way_to(document, goals):
    """The way from the present values of the parameters to others, told as pairs of a name and a fraction."""
    names = document.names()
    goal = document.setting()
    known = {}
    for name, worth in goals:
        if name not in names or name in known:
            raise Unknown(f"there is no parameter {name}, or it comes twice")
        known[name] = True
        at = names.index(name)
        _, _, low, high = document.parameters[at]
        if less(worth, low) or less(high, worth):
            raise Beyond("the value is outside the range")
        goal[at] = worth
    return (document.setting(), goal)


def at_place(way, place):
    """The setting at a place of a way."""
    return [plus(start, times(place, minus(goal, start))) for start, goal in zip(*way)]


def walls_at(document, setting):
    """The walls (origin, normal, value) of a document at a setting."""
    return front_of(document, setting)[0].walls()


def form_values(walls):
    """The list of the forms of all circuits of walls: pairs (places, value)."""
    found = []
    for places, multipliers in circuits([wall[1] for wall in walls]):
        shares = [scale(fraction(many), walls[place][2]) for place, many in zip(places, multipliers)]
        worth = shares[0]
        for share in shares[1:]:
            worth = add(worth, share)
        found.append((places, worth))
    return found


def root(way, worth):
    """The place at which a value is 0 along a way, or None if it is the same all along."""
    first, last = value(worth, way[0]), value(worth, way[1])
    if first == last:
        return None
    return over(first, minus(first, last))


def ends_of(walls, way):
    """For each wall its normal and its offsets at the start and at the goal, all integers over one divisor."""
    rows = [(wall[1], value(wall[2], way[0]), value(wall[2], way[1])) for wall in walls]
    shared = 1
    for _, first, last in rows:
        shared = lcm(shared, first[1], last[1])
    return [(normal, a[0] * (shared // a[1]), b[0] * (shared // b[1])) for normal, a, b in rows]


def form_at(circuit, rows):
    """The form of a circuit at the start and at the goal, both multiplied by the divisor of the rows."""
    first = 0
    last = 0
    for place, many in zip(*circuit):
        _, a, b = rows[place]
        first += many * a
        last += many * b
    return first, last


def events(walls, way):
    """The list of the roots between 0 and 1 of the forms of walls, ascending, each once."""
    # Walls that go along together have the same roots.
    rows = list({row: True for row in ends_of(walls, way)})
    found = {}
    for circuit in circuits([row[0] for row in rows]):
        first, last = form_at(circuit, rows)
        if first < 0 < last or last < 0 < first:
            found[fraction(first, first - last)] = True
    places = list(found)
    size = scale_for(places)
    return [row[1] for row in sorted([(rank(place, size), place) for place in places])]


def sample(stage):
    """The middle of a stage."""
    return middle(stage[0], stage[1])


class Route:
    """A way of a document, and what was found along it."""

    def __init__(self, document, way):
        self.document = document
        self.way = way
        self.fronts = {}
        self.known = {}
        self.passed = []

    def front(self, place):
        """The tools that the features have at a place."""
        # Kept, since many places are asked for more than once.
        if place not in self.fronts:
            self.fronts[place] = front_of(self.document, at_place(self.way, place))[0]
        return self.fronts[place]

    def walls(self, place):
        """The walls at a place."""
        return self.front(place).walls()

    def body(self, place):
        """The body at a place."""
        return self.front(place).body()

    def events(self, walls):
        """The events of walls."""
        # Kept, since the walls are mostly the same all along.
        key = tuple({wall: True for wall in walls})
        if key not in self.known:
            self.known[key] = events(walls, self.way)
        return self.known[key]

    def stage_looked_at(self, place):
        """The stage around a place between 0 and 1, by the walls there."""
        low = ZERO
        for event in self.events(self.walls(place)):
            if event == place:
                return (place, place)
            if less(place, event):
                return (low, event)
            low = event
        return (low, ONE)

    def stage(self, place):
        """The stage around a place between 0 and 1."""
        # Within a stage the walls are the same, so that one look is enough.
        for low, high in self.passed:
            if low == high == place or (less(low, place) and less(place, high)):
                return (low, high)
        found = self.stage_looked_at(place)
        self.passed.append(found)
        return found

    def stage_behind(self, place):
        """The stage that begins right behind a place."""
        bound = ONE
        for _ in range(MOST_LOOKS):
            low, high = self.stage(middle(place, bound))
            if low != high and not less(place, low):
                return (place, high)
            bound = low
        raise Stuck(f"{MOST_LOOKS} stages were looked at")

    def stages(self):
        """The list of all stages."""
        found = [(ZERO, ZERO)]
        place = ZERO
        while place != ONE:
            stage = self.stage_behind(place)
            place = stage[1]
            found = found + [stage, (place, place)]
            if len(found) > MOST_STAGES:
                raise Stuck(f"there are more than {MOST_STAGES} stages")
        return found


def stage_at(document, way, place):
    """The stage around a place of a way between 0 and 1."""
    return Route(document, way).stage(place)


def stages(document, way):
    """The list of all stages of a way."""
    return Route(document, way).stages()
