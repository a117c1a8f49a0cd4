"""Products of directions with one another and with points."""

from truepart.numbers import fraction

AXES = ((1, 0, 0), (0, 1, 0), (0, 0, 1))


def inner(a, b):
    """The product of two directions, an integer."""
    return a[0] * b[0] + a[1] * b[1] + a[2] * b[2]


def outer(a, b):
    """The cross product of two directions."""
    return (a[1] * b[2] - a[2] * b[1], a[2] * b[0] - a[0] * b[2], a[0] * b[1] - a[1] * b[0])


def sign_of(number):
    """-1, 0 or 1, as an integer is below, at or above 0."""
    if number < 0:
        return -1
    return 1 if number > 0 else 0


def reach_ratio(normal, point):
    """The product of a direction and a point as two integers, not in lowest terms, the second one above 0."""
    # All over one divisor, since this is reckoned very often.
    (x, under_x), (y, under_y), (z, under_z) = point
    number = normal[0] * x * under_y * under_z + normal[1] * y * under_x * under_z + normal[2] * z * under_x * under_y
    return number, under_x * under_y * under_z


def reach(normal, point):
    """The product of a direction and a point, a fraction."""
    number, divisor = reach_ratio(normal, point)
    return fraction(number, divisor)
