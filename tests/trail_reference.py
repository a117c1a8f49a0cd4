"""What the document says of following and surveys, word by word and slowly, to compare the package with."""

from fractions import Fraction

from reference import exact, pair
from truepart.affine import value
from truepart.cells import arrange, centre, dimension, in_closure
from truepart.circuits import circuits
from truepart.corners import corner_points
from truepart.edges import edge_pieces
from truepart.faces import face_pieces
from truepart.making import make
from truepart.names import look
from truepart.planes import sides
from truepart.ways import at_place, events, stages, walls_at


def half_way(a, b):
    return pair((exact(a) + exact(b)) / 2)


def body_at(document, way, place):
    return make(document, at_place(way, place))[0]


def things(body, name, meant):
    if name[0] == "edge":
        return edge_pieces(body, meant[0], meant[1])
    if name[0] == "corner":
        return corner_points(body, *meant)
    return face_pieces(body, meant[0])


def cells(body, name, thing):
    if name[0] == "edge":
        return [cell[0] for cell in thing[3]]
    if name[0] == "corner":
        return [signs for signs, points in body.cells if points == [thing]]
    return [flat[0] for flat in thing[2]]


def all_cells(body, walls, setting, size):
    """The cells of so great a dimension that all planes make, those that are the same counting more than once."""
    planes = [(normal, value(offset, setting)) for _, normal, offset in walls]
    return [cell for cell in arrange(planes, body.low, body.high) if dimension(cell[0], planes) == size]


def lies_in(body, cell, wanted):
    """Whether a cell of more planes lies in one of some cells of a body."""
    return sides(body.planes, centre(cell[1])) in wanted


def beside(way, walls, place, middle):
    """The place beside a place, in the stage that has this middle."""
    found = [middle]
    for event in events(walls, way):
        if (exact(event) > exact(place)) == (exact(middle) > exact(place)) and event != place:
            found.append(half_way(place, event))
    return min(found, key=lambda other: abs(exact(other) - exact(place)))


def links(document, way, name, meant, place, stage):
    """Pairs of things, by their cells: at a place, and in the stage beside it."""
    middle = half_way(*stage)
    there, inside = [walls_at(document, at_place(way, at)) for at in (place, middle)]
    walls = there[:-6] + inside[:-6] + inside[-6:]
    other = beside(way, walls, place, middle)
    assert exact(stage[0]) < exact(other) < exact(stage[1])
    one_body, other_body = body_at(document, way, place), body_at(document, way, other)
    size = {"edge": 1, "corner": 0}.get(name[0], 2)
    ones = all_cells(one_body, walls, at_place(way, place), size)
    others = all_cells(other_body, walls, at_place(way, other), size)
    found = []
    for one in things(one_body, name, meant):
        mine = [cell for cell in ones if lies_in(one_body, cell, cells(one_body, name, one))]
        for thing in things(other_body, name, meant):
            if size == 2 and one[1] != thing[1]:
                continue
            its = [cell for cell in others if lies_in(other_body, cell, cells(other_body, name, thing))]
            if any(in_closure(a[0], b[0]) for a in mine for b in its):
                found.append((cells(one_body, name, one), cells(other_body, name, thing)))
    return found


def follow(document, way, name, meant):
    rows = stages(document, way)
    body = body_at(document, way, (0, 1))
    state, thing = look(body, name, meant)
    at = things(body, name, meant) if state == "split" else []
    if state == "found":
        at = [piece for piece in things(body, name, meant) if (piece[0] if name[0] == "plane" else piece) == thing]
    found = [(rows[0], [cells(body, name, thing) for thing in at])]
    for before, stage in zip(rows, rows[1:]):
        at = found[-1][1]
        if before[0] == before[1]:
            gone = [b for a, b in links(document, way, name, meant, before[0], stage) if a in at]
        else:
            gone = [a for a, b in links(document, way, name, meant, stage[0], before) if b in at]
        body = body_at(document, way, half_way(*stage))
        told = [cells(body, name, thing) for thing in things(body, name, meant)]
        found.append((stage, [row for row in told if row in gone]))
    return found


def survey(document, way, name, meant):
    told = []
    for stage, at in follow(document, way, name, meant):
        body = body_at(document, way, half_way(*stage))
        state, thing = look(body, name, meant)
        number = 1 if state == "found" else len(thing)
        moved = False
        if state == "found":
            moved = at == [] if name[0] == "plane" else at != [cells(body, name, thing)]
        told.append((stage, state, number, moved))
    parts = []
    for k, (stage, *rest) in enumerate(told):
        if k and told[k - 1][1:] == tuple(rest):
            parts[-1][2:4] = [stage[1], stage[0] == stage[1]]
        else:
            front = told[k - 1][0] if stage[0] == stage[1] else stage
            parts.append([stage[0], stage[0] == stage[1], stage[1], stage[0] == stage[1], *rest,
                          meets(document, way, stage[0], front)])
    return [tuple(part) for part in parts]


def meets(document, way, place, stage):
    if place in ((0, 1), (1, 1)):
        return []
    walls = walls_at(document, at_place(way, half_way(*stage)))
    for places, multipliers in circuits([wall[1] for wall in walls]):
        ends = []
        for setting in way:
            ends.append(sum(many * exact(value(walls[k][2], setting)) for k, many in zip(places, multipliers)))
        if ends[0] != ends[1] and ends[0] + exact(place) * (ends[1] - ends[0]) == Fraction(0):
            return [walls[k][0] for k in places]
    return []
