"""Cuts: what becomes of cells as one more plane is put among theirs."""

from truepart.numbers import minus, over, plus, times
from truepart.planes import along, side


def crossing(wall, a, b):
    """The point between two points at which a plane passes between them."""
    normal, offset = wall
    start = along(normal, a)
    share = over(minus(offset, start), minus(along(normal, b), start))
    return tuple([plus(x, times(share, minus(y, x))) for x, y in zip(a, b)])


def crossings(cells, wall, known):
    """A dict from the ends of each segment that a plane cuts to the point there; known tells the sides of vertices."""
    found = {}
    for _, points in cells:
        # A cell has two vertices if and only if its dimension is 1.
        if len(points) == 2 and known[points[0]] * known[points[1]] < 0:
            a, b = points
            found[(a, b)] = found[(b, a)] = crossing(wall, a, b)
    return found


def parts_of(points, rows, passed):
    """The parts into which a plane cuts a cell: pairs of the side of the plane and the vertices.

    The rows tell the sides of the cell's vertices, of which some are below the plane and some above it.
    """
    below = [point for point, row in zip(points, rows) if row < 0]
    above = [point for point, row in zip(points, rows) if row > 0]
    on = [point for point, row in zip(points, rows) if row == 0]
    on += [passed[(a, b)] for a in below for b in above if (a, b) in passed]
    return [(-1, below + on), (0, on), (1, on + above)]


def divided_cells(cells, place, wall):
    """What becomes of cells as a plane is put among theirs, at an index; the vertices of each are in any order."""
    known = {points[0]: side(wall, points[0]) for _, points in cells if len(points) == 1}
    passed = crossings(cells, wall, known)
    found = []
    for signs, points in cells:
        rows = [known[point] for point in points]
        low, high = min(rows), max(rows)
        if low < 0 < high:
            for sign, part in parts_of(points, rows, passed):
                found.append((signs[:place] + (sign,) + signs[place:], part))
        else:
            # The points of the cell are where those of its vertices are that are not on the plane.
            sign = low if low < 0 else high
            found.append((signs[:place] + (sign,) + signs[place:], points))
    return found
