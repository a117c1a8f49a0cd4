"""Tuples of signs, which tell on which sides of planes cells are."""


def replaced(signs, places, others):
    """The tuple of signs that has others at these places."""
    row = list(signs)
    for place, other in zip(places, others):
        row[place] = other
    return tuple(row)


def signs_beside(signs, plane):
    """The signs below and above the plane with an index."""
    return replaced(signs, [plane], [-1]), replaced(signs, [plane], [1])


def flat_among(cells):
    """The cells, of some, with exactly one sign 0: tuples (signs, vertices, index of the plane, below, above).

    Below and above are the signs of the places on both sides.
    """
    found = []
    for signs, points in cells:
        if signs.count(0) == 1:
            plane = signs.index(0)
            found.append((signs, list(points), plane, *signs_beside(signs, plane)))
    return found
