"""Corners: the vertices at which flat places of three lists of origins meet."""

from itertools import combinations
from truepart.cells import in_order
from truepart.planes import independent
from truepart.segments import flats_with


def planes_at(flats):
    """A dict from each vertex of flat places to the indexes of their planes."""
    found = {}
    for _, points, plane, _, _ in flats:
        for point in points:
            there = found.setdefault(point, {})
            there[plane] = True
    return {point: list(places) for point, places in found.items()}


def have_corner(body, first, second, third):
    """Whether planes out of three lists of indexes, one of each, have independent normals."""
    for a in first:
        for b in second:
            for c in third:
                if independent([body.planes[k][0] for k in (a, b, c)]) == 3:
                    return True
    return False


def corner_points(body, first, second, third):
    """The list of the corners of three lists of origins, in order."""
    tables = [planes_at(flats_with(body, origins)) for origins in (first, second, third)]
    found = []
    for point in tables[0]:
        three = [table.get(point, []) for table in tables]
        if have_corner(body, *three):
            found.append(point)
    return in_order(found)


def origins_at(flats):
    """A dict from each vertex of flat places to a dict from their origins to lists of the indexes of their planes."""
    found = {}
    for _, points, plane, origin, _ in flats:
        for point in points:
            there = found.setdefault(point, {})
            there.setdefault(origin, []).append(plane)
    return found


def is_corner(body, places):
    """Whether some three of the origins of a dict, which tells the indexes of their planes, have a corner."""
    origins = list(places)
    for one, other, third in combinations(origins, 3):
        if have_corner(body, places[one], places[other], places[third]):
            return True
    return False


def corners(body):
    """The list of all corners of three different origins, in order, with the origins there: pairs."""
    found = origins_at(body.flats())
    points = in_order([point for point in found if is_corner(body, found[point])])
    return [(point, sorted(found[point])) for point in points]
