"""Following: to what the things of a name go along a way."""

from truepart.affine import value
from truepart.bodies import ROOM_SIDES
from truepart.cells import arrange
from truepart.corners import corner_points
from truepart.edges import edge_pieces
from truepart.faces import face_pieces
from truepart.names import look
from truepart.numbers import ZERO, less, middle
from truepart.planes import sides
from truepart.ways import Route, at_place, sample


def things_of(body, name, meant):
    """The list of the things that things of a name can become."""
    if name[0] == "edge":
        return edge_pieces(body, meant[0], meant[1])
    if name[0] == "corner":
        return corner_points(body, meant[0], meant[1], meant[2])
    return face_pieces(body, meant[0])


def cells_of(body, name, thing):
    """The list of the cells of a thing, by their sides."""
    if name[0] == "edge":
        return [signs for signs, _ in thing[3]]
    if name[0] == "corner":
        return [sides(body.planes, thing)]
    return [flat[0] for flat in thing[2]]


def is_of_size(name, signs, points):
    """Whether a cell of different planes has the dimension of the things of a name."""
    if name[0] == "edge":
        return len(points) == 2
    if name[0] == "corner":
        return len(points) == 1
    return signs.count(0) == 1


def are_alike(name, one, other):
    """Whether things of a name can go to one another, whatever their cells: face pieces must look the same way."""
    return name[0] in ("edge", "corner") or one[1] == other[1]


def placed(walls, setting):
    """The different planes of walls at a setting, those of the room last, and for each wall the index of its plane."""
    planes = [(normal, value(offset, setting)) for _, normal, offset in walls]
    room = planes[-len(ROOM_SIDES):]
    found = list({plane: True for plane in planes if plane not in room}) + room
    places = {plane: k for k, plane in enumerate(found)}
    return found, [places[plane] for plane in planes]


def place_beside(route, walls, place, stage):
    """The place beside a place, in the stage beside it."""
    found = sample(stage)
    is_above = less(place, found)
    for event in route.events(walls):
        half = middle(place, event)
        if is_above and less(place, half) and less(half, found):
            found = half
        if not is_above and less(half, place) and less(found, half):
            found = half
    return found


def by_places(cells):
    """Cells (signs, number) as a dict: from the places of the signs that are not 0 to a dict from these to numbers."""
    found = {}
    for signs, number in cells:
        places = tuple([at for at, sign in enumerate(signs) if sign != 0])
        table = found.setdefault(places, {})
        table[tuple([signs[at] for at in places])] = number
    return found


def closures(small, large):
    """The pairs of numbers of cells (signs, number) of two lists, the first one in the closure of the second."""
    tables = by_places(small)
    found = {}
    for signs, number in large:
        for places, table in tables.items():
            other = table.get(tuple([signs[at] for at in places]))
            if other is not None:
                found[(other, number)] = True
    return list(found)


class Trail:
    """A name along a way."""

    def __init__(self, route, name, meant):
        self.route = route
        self.name = name
        self.meant = meant
        self.known = {}

    def things(self, place):
        """The things of the name at a place."""
        if place not in self.known:
            self.known[place] = things_of(self.route.body(place), self.name, self.meant)
        return self.known[place]

    def cells(self, place):
        """The lists of the cells of the things at a place."""
        body = self.route.body(place)
        return [cells_of(body, self.name, thing) for thing in self.things(place)]

    def look(self, place):
        """Where the name goes at a place."""
        return look(self.route.body(place), self.name, self.meant)

    def first(self):
        """The indexes of the things at which the name is at the place 0."""
        things = self.things(ZERO)
        state, thing = self.look(ZERO)
        if state == "found" and self.name[0] == "plane":
            return [k for k, piece in enumerate(things) if piece[0] == thing]
        if state == "found":
            return [k for k, piece in enumerate(things) if piece == thing]
        return list(range(len(things))) if state == "split" else []

    def parts(self, place, walls):
        """The cells in the things at a place that the planes of walls make: pairs (sides at the walls, index)."""
        body = self.route.body(place)
        planes, places = placed(walls, at_place(self.route.way, place))
        own = [planes.index(plane) for plane in body.planes]
        known = {}
        for k, row in enumerate(self.cells(place)):
            for signs in row:
                known[signs] = k
        # The planes are mostly those of the body alone, and then its cells are at hand.
        cells = body.cells if planes == body.planes else arrange(planes, body.low, body.high)
        found = []
        for signs, points in cells:
            if is_of_size(self.name, signs, points):
                at = known.get(tuple([signs[k] for k in own]))
                if at is not None:
                    found.append((tuple([signs[k] for k in places]), at))
        return found

    def links(self, place, stage):
        """The pairs of indexes of things, at a place and in the stage beside it, that go to one another."""
        walls = self.route.walls(place)[:-len(ROOM_SIDES)] + self.route.walls(sample(stage))
        beside = place_beside(self.route, walls, place, stage)
        # Things beside are known again in the middle of the stage by their cells, whatever their order.
        numbers = {tuple(cells): k for k, cells in enumerate(self.cells(sample(stage)))}
        again = [numbers[tuple(cells)] for cells in self.cells(beside)]
        one, other = self.things(place), self.things(beside)
        pairs = closures(self.parts(place, walls), self.parts(beside, walls))
        return [(a, again[b]) for a, b in pairs if are_alike(self.name, one[a], other[b])]

    def behind(self, before, stage, at):
        """The indexes of the things of a stage to which things go at which the name was in the stage before."""
        if before[0] == before[1]:
            links = self.links(before[0], stage)
        else:
            links = [(b, a) for a, b in self.links(stage[0], before)]
        return sorted(set([b for a, b in links if a in at]))

    def stages(self):
        """For each stage of the way the stage and the indexes of the things at which the name is."""
        stages = self.route.stages()
        found = [(stages[0], self.first())]
        for before, stage in zip(stages, stages[1:]):
            found.append((stage, self.behind(before, stage, found[-1][1])))
        return found


def follow(document, way, name, meant):
    """For each stage the stage and the list of the lists of the cells of the things at which a name is."""
    trail = Trail(Route(document, way), name, meant)
    found = []
    for stage, at in trail.stages():
        cells = trail.cells(sample(stage))
        found.append((stage, [cells[k] for k in at]))
    return found
