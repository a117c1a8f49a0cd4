"""Fitting: the points and planes that names tell in a body, going along with the parameters."""

from truepart.affine import add, scale
from truepart.errors import PartError
from truepart.names import look
from truepart.nametexts import name_text
from truepart.numbers import fraction
from truepart.planes import cross, is_parallel, triple
from truepart.products import inner
from truepart.tools import spread
from truepart.vectors import primitive


class Waits(PartError):
    """A feature cannot be made; why is told."""

    def __init__(self, why):
        self.why = why


def thing_named(front, name, meant):
    """The thing to which a name goes, which must be found."""
    state, thing = look(front.shell(), name, meant)
    if state != "found":
        raise Waits(f"{name_text(name)} is {state}")
    return thing


def refuse_fit(name):
    """Tells that what a name goes to is not what is needed."""
    raise Waits(f"{name_text(name)} does not fit")


def planes_by_origin(front):
    """A dict from the origin of each side to its plane, a normal and a value."""
    return {origin: (normal, offset) for origin, normal, offset in front.walls()}


def plane_named(front, name, meant):
    """The plane (normal, value) of the plane or face to which a name goes."""
    thing = thing_named(front, name, meant)
    if name[0] not in ("plane", "face", "piece"):
        refuse_fit(name)
    place = thing if name[0] == "plane" else thing[0]
    there = {flat[3]: True for flat in front.shell().flats() if flat[2] == place}
    return planes_by_origin(front)[[origin for origin in meant[0] if origin in there][0]]


def independent_planes(rows):
    """The first three planes (normal, value), one of each of three lists, with independent normals."""
    first, second, third = rows
    for a in first:
        for b in second:
            for c in third:
                if triple(a[0], b[0], c[0]) != 0:
                    return a, b, c
    return None


def meeting_along(first, second, third):
    """The triple of values that tells where three planes (normal, value) meet."""
    a, b, c = first[0], second[0], third[0]
    offsets = (first[1], second[1], third[1])
    share = fraction(1, triple(a, b, c))
    # Cramer's rule, with values in place of offsets.
    return tuple([scale(share, spread(row, offsets)) for row in zip(cross(b, c), cross(c, a), cross(a, b))])


def corner_named(front, name, meant):
    """The triple of values that tells the corner to which a name goes."""
    point = thing_named(front, name, meant)
    if name[0] != "corner":
        refuse_fit(name)
    there = {flat[3]: True for flat in front.shell().flats() if point in flat[1]}
    planes = planes_by_origin(front)
    rows = [[planes[origin] for origin in origins if origin in there] for origins in meant]
    a, b, c = independent_planes(rows)
    return meeting_along(a, b, c)


def sum_of(triple_told, other):
    """The sum of two triples of values."""
    return tuple([add(a, b) for a, b in zip(triple_told, other)])


def base_at(front, spot, meant):
    """The triple of values of a spot that must be a point."""
    name, step = spot
    if name is None:
        return step
    return sum_of(corner_named(front, name, meant), step)


def reach_at(front, direction, spot, meant):
    """The product, a value, that a direction has with the plane square to it at a spot."""
    name, step = spot
    if name is None or name[0] == "corner":
        return spread(direction, base_at(front, spot, meant))
    normal, offset = plane_named(front, name, meant)
    if not is_parallel(normal, direction):
        refuse_fit(name)
    return add(scale(fraction(primitive(direction)[1]), offset), spread(direction, step))


def end_at(front, direction, end, meant):
    """What an end of a sketch stands on: a value, or a plane (normal, value) if it is on a name."""
    name, found = end
    if name is None:
        return found
    plane = plane_named(front, name, meant)
    if inner(plane[0], direction) == 0:
        refuse_fit(name)
    return plane
