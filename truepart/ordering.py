"""The order of fractions and of points, told by integers."""


def scale_for(parts):
    """An integer such that fractions of a list that differ are at least 1 apart when they are multiplied by it."""
    # Two fractions that differ are at least 1 over the product of their divisors apart.
    most = max([part[1] for part in parts], default=1)
    return most * most


def scale_for_points(points):
    """An integer that does the same for the parts of points."""
    return scale_for([part for point in points for part in point])


def rank(part, scale):
    """The integer that stands for a fraction in the order of all for which the scale was found."""
    return part[0] * scale // part[1]


def point_rank(point, scale):
    """The tuple that stands for a point in the order of all points for which the scale was found."""
    return tuple([rank(part, scale) for part in point])
