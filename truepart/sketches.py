"""Where the lines of a sketch are: their offsets, out of points that are told and dimensions."""

from truepart.affine import scale, subtract
from truepart.linear import settle_rows, worth_told
from truepart.numbers import ONE, ZERO, fraction, minus, negative


def parts_of(found):
    """The base and the slopes of a value, in one list."""
    return [found[0], *found[1]]


def row_of(many, shares, found):
    """The row that tells that a sum of offsets of so many lines is a value; shares tell the multipliers."""
    return [shares.get(at, ZERO) for at in range(many)] + parts_of(found)


def through_row(lines, at):
    """The row of a line through a point that is told."""
    (a, b), (x, y) = lines[at][1:]
    return row_of(len(lines), {at: ONE}, subtract(scale(fraction(a), y), scale(fraction(b), x)))


def ratio(pair, other):
    """The fraction by which a pair is multiplied to give a parallel one."""
    at = 0 if pair[0] != 0 else 1
    return fraction(other[at], pair[at])


def apart_row(lines, dimension):
    """The row of a dimension between two lines."""
    _, first, second, (p, q), found = dimension
    a, b = lines[second][1]
    shares = {first: negative(ratio(lines[first][1], (a, b))), second: ONE}
    return row_of(len(lines), shares, scale(fraction(a * q - b * p), found))


def corner_shares(lines, first, second, axis):
    """The multipliers of the offsets of two lines of which x (axis u) or y (axis v) at their corner is the sum."""
    (a, b), (c, d) = lines[first][1], lines[second][1]
    size = a * d - b * c
    if axis == "u":
        return {first: fraction(c, size), second: fraction(-a, size)}
    return {first: fraction(d, size), second: fraction(-b, size)}


def at_row(lines, dimension):
    """The row of a dimension that tells x or y at a corner."""
    _, first, second, axis, found = dimension
    return row_of(len(lines), corner_shares(lines, first, second, axis), found)


def between_row(lines, dimension):
    """The row of a dimension between two corners."""
    _, first, second, third, fourth, axis, found = dimension
    start = corner_shares(lines, first, second, axis)
    shares = corner_shares(lines, third, fourth, axis)
    for at in start:
        shares[at] = minus(shares.get(at, ZERO), start[at])
    return row_of(len(lines), shares, found)


def dimension_row(lines, dimension):
    """The row of a dimension."""
    kind = dimension[0]
    if kind == "apart":
        return apart_row(lines, dimension)
    if kind == "at":
        return at_row(lines, dimension)
    return between_row(lines, dimension)


def solve_sketch(lines, dimensions):
    """("over", numbers of dimensions), ("free", names of lines) or ("determined", offsets)."""
    many = len(lines)
    through = [through_row(lines, at) for at in range(many) if lines[at][2] is not None]
    state, found = settle_rows(through + [dimension_row(lines, dimension) for dimension in dimensions], many)
    if state == "conflict":
        return ("over", [place - len(through) + 1 for place in found if place >= len(through)])
    told = [worth_told(found, at, many) for at in range(many)]
    free = [lines[at][0] for at in range(many) if told[at] is None]
    if free:
        return ("free", free)
    return ("determined", [(parts[0], tuple(parts[1:])) for parts in told])
