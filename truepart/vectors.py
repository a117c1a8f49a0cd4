"""Directions of sketches and their planes; pairs."""

from truepart.numbers import common, fraction, over
from truepart.products import inner, outer, reach


def dot(a, b):
    """The product of two directions, an integer."""
    return inner(a, b)


def cross(a, b):
    """The cross product of two directions."""
    return outer(a, b)


def volume(a, b, c):
    """The triple product of three directions, an integer."""
    return inner(a, outer(b, c))


def primitive(a):
    """The canonical direction of a direction, and its divisor."""
    divisor = common(common(a[0], a[1]), a[2])
    # Without its zeros, a direction is below (0, 0, 0) as its first part is below 0.
    if a < (0, 0, 0):
        divisor = -divisor
    return tuple([part // divisor for part in a]), divisor


def along(normal, point):
    """The product of a direction and a point, a fraction."""
    return reach(normal, point)


def plane_of(normal, offset):
    """The plane of a direction and an offset, and whether its upper half is that of the direction."""
    direction, divisor = primitive(normal)
    return (direction, over(offset, fraction(divisor))), divisor > 0


def parallel(a, b):
    """Whether two pairs are parallel."""
    return a[0] * b[1] == a[1] * b[0]
