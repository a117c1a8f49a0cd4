"""Cells: what planes make of a room, told by sides."""

from itertools import combinations
from truepart.numbers import fraction, less, over, total
from truepart.ordering import point_rank, scale_for_points
from truepart.planes import independent, meeting, sides
from truepart.stars import replaced, star

AXES = ((1, 0, 0), (0, 1, 0), (0, 0, 1))

# The signs that points of the room can have at its sides, besides 0.
ROOM_SIGNS = (1, -1, 1, -1, 1, -1)


def walls(low, high):
    """The list of the six sides of a room."""
    found = []
    for axis, least, most in zip(AXES, low, high):
        found.append((axis, least))
        found.append((axis, most))
    return found


def is_inside(point, low, high):
    """Whether a point is in the room."""
    return not any([less(part, least) or less(most, part) for part, least, most in zip(point, low, high)])


def before(a, b):
    """Whether the first point stands before the second."""
    for first, second in zip(a, b):
        if first != second:
            return less(first, second)
    return False


def in_order(points):
    """The list of the points, in order, each once."""
    found = list({point: True for point in points})
    scale = scale_for_points(found)
    return [row[1] for row in sorted([(point_rank(point, scale), point) for point in found])]


def vertices(planes, low, high):
    """The list of the points of the room at which three of the planes meet, in order."""
    found = []
    for first, second, third in combinations(planes, 3):
        point = meeting(first, second, third)
        if point is not None and is_inside(point, low, high):
            found.append(point)
    return in_order(found)


def room_star(walls_there):
    """The signs of the places of the room close to a point, at planes through it.

    The planes are told as pairs of a normal and the sign that the room allows there, 0 if it allows both.
    """
    found = star([normal for normal, _ in walls_there])
    allowed = [sign for _, sign in walls_there]
    return [signs for signs in found if all([a * b >= 0 for a, b in zip(signs, allowed)])]


def arrange(planes, low, high):
    """The list of all cells as pairs of sides and vertices, in ascending order of the sides."""
    allowed = (0,) * (len(planes) - len(ROOM_SIGNS)) + ROOM_SIGNS
    stars = {}
    found = {}
    # Each cell has a vertex; so all cells are found around the vertices.
    for point in vertices(planes, low, high):
        signs = sides(planes, point)
        there = [k for k, sign in enumerate(signs) if sign == 0]
        key = tuple([(planes[k][0], allowed[k]) for k in there])
        if key not in stars:
            stars[key] = room_star(key)
        for near in stars[key]:
            found.setdefault(replaced(signs, there, near), []).append(point)
    return sorted(list(found.items()))


def dimension(signs, planes):
    """The dimension of a cell, given by its sides."""
    return 3 - independent([plane[0] for sign, plane in zip(signs, planes) if sign == 0])


def in_closure(small, large):
    """Whether the first cell is in the closure of the second; both are given by their sides."""
    return all([a in (0, b) for a, b in zip(small, large)])


def centre(points):
    """The mean of a list of points."""
    many = fraction(len(points))
    return tuple([over(total(list(parts)), many) for parts in zip(*points)])


def count_cells(planes, low, high):
    """The list of the numbers of cells of dimension 0, 1, 2 and 3; the sides of the room come to the planes."""
    whole = list(planes) + walls(low, high)
    found = [0, 0, 0, 0]
    for signs, _ in arrange(whole, low, high):
        found[dimension(signs, whole)] += 1
    return found
