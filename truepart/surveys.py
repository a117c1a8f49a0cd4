"""Surveys: what is told of a name along a way."""

from truepart.circuits import circuits
from truepart.following import Trail
from truepart.names import look
from truepart.numbers import ONE, ZERO
from truepart.making import make
from truepart.ways import Route, at_place, ends_of, form_at, sample


def told_of(found):
    """The state and the number of things that look has found."""
    state, things = found
    return state, 1 if state == "found" else len(things)


def has_moved(trail, place, found, at):
    """Whether a name has moved that look has found at a place, if it was followed to the things with these indexes."""
    state, thing = found
    if state != "found":
        return False
    if trail.name[0] == "plane":
        return not at
    things = trail.things(place)
    return [things[k] for k in at] != [thing]


def told_along(trail):
    """For each stage the stage, the state, the number of things, and whether the name has moved."""
    rows = []
    for stage, at in trail.stages():
        place = sample(stage)
        found = trail.look(place)
        state, number = told_of(found)
        rows.append((stage, state, number, has_moved(trail, place, found, at)))
    return rows


def meeting_at(route, place, stage):
    """The list of the origins of the walls of a stage that come to meet at a place at its end."""
    walls = route.walls(sample(stage))
    rows = ends_of(walls, route.way)
    part, whole = place
    for circuit in circuits([row[0] for row in rows]):
        first, last = form_at(circuit, rows)
        if first != last and first * (whole - part) + last * part == 0:
            return [walls[k][0] for k in circuit[0]]
    return []


def part_of(route, rows, before):
    """The part that rows of stages beside one another make; before is the stage in front of them, or None."""
    first, state, number, moved = rows[0]
    last = rows[-1][0]
    meets = []
    if first[0] not in (ZERO, ONE):
        meets = meeting_at(route, first[0], before if first[0] == first[1] else first)
    return (first[0], first[0] == first[1], last[1], last[0] == last[1], state, number, moved, meets)


def survey(document, way, name, meant):
    """The list of the parts of a way: tuples (low, begins, high, ends, state, number, moved, meets)."""
    route = Route(document, way)
    groups = []
    for row in told_along(Trail(route, name, meant)):
        if groups and groups[-1][-1][1:] == row[1:]:
            groups[-1].append(row)
        else:
            groups.append([row])
    found = []
    before = None
    for rows in groups:
        found.append(part_of(route, rows, before))
        before = rows[-1][0]
    return found


def survives(document, way, name, meant):
    """Whether a name is found at all stages of a way, and never moved."""
    rows = told_along(Trail(Route(document, way), name, meant))
    return all([state == "found" and not moved for _, state, _, moved in rows])


def state_along(document, way, name, meant, place):
    """The state and the number of things of a name at a place of a way."""
    return told_of(look(make(document, at_place(way, place))[0], name, meant))
