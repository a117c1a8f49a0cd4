"""Cells: what planes make of a room, told by sides."""

from itertools import combinations
from truepart.cuts import divided_cells
from truepart.grids import Grid
from truepart.numbers import fraction, less, over, total
from truepart.ordering import point_rank, scale_for_points
from truepart.planes import independent, meeting
from truepart.products import AXES


def walls(low, high):
    """The list of the six sides of a room."""
    found = []
    for axis, least, most in zip(AXES, low, high):
        found.append((axis, least))
        found.append((axis, most))
    return found


def is_inside(point, low, high):
    """Whether a point is in the room."""
    return not any([less(part, least) or less(most, part) for part, least, most in zip(point, low, high)])


def before(a, b):
    """Whether the first point stands before the second."""
    for first, second in zip(a, b):
        if first != second:
            return less(first, second)
    return False


def in_order(points):
    """The list of the points, in order, each once."""
    found = list({point: True for point in points})
    scale = scale_for_points(found)
    return [row[1] for row in sorted([(point_rank(point, scale), point) for point in found])]


def vertices(planes, low, high):
    """The list of the points of the room at which three of the planes meet, in order."""
    found = []
    for first, second, third in combinations(planes, 3):
        point = meeting(first, second, third)
        if point is not None and is_inside(point, low, high):
            found.append(point)
    return in_order(found)


def arrange(planes, low, high):
    """The list of all cells as pairs of sides and vertices, in ascending order of the sides."""
    # The sides of the room among the planes tell what low and high tell.
    found = Grid([plane for plane in planes if plane[0] in AXES]).all_cells()
    slanted = [k for k, plane in enumerate(planes) if plane[0] not in AXES]
    if not slanted:
        return found
    for k in slanted:
        found = divided_cells(found, k, planes[k])
    points = in_order([points[0] for _, points in found if len(points) == 1])
    ranks = {point: k for k, point in enumerate(points)}
    return sorted([(signs, [points[k] for k in sorted([ranks[point] for point in there])]) for signs, there in found])


def dimension(signs, planes):
    """The dimension of a cell, given by its sides."""
    return 3 - independent([plane[0] for sign, plane in zip(signs, planes) if sign == 0])


def in_closure(small, large):
    """Whether the first cell is in the closure of the second; both are given by their sides."""
    return all([a in (0, b) for a, b in zip(small, large)])


def centre(points):
    """The mean of a list of points."""
    many = fraction(len(points))
    return tuple([over(total(list(parts)), many) for parts in zip(*points)])


def count_cells(planes, low, high):
    """The list of the numbers of cells of dimension 0, 1, 2 and 3; the sides of the room come to the planes."""
    whole = list(planes) + walls(low, high)
    found = [0, 0, 0, 0]
    for signs, _ in arrange(whole, low, high):
        found[dimension(signs, whole)] += 1
    return found
