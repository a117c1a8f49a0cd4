"""Values that go straight along with the parameters: pairs (base, slopes) of a fraction and a tuple of fractions."""

from truepart.numbers import ONE, ZERO, minus, negative, plus, times, total


def constant(base, many):
    """The value that is the same at every setting of so many parameters."""
    return (base, (ZERO,) * many)


def parameter(at, many):
    """The value of the parameter with an index among so many."""
    return (ZERO, tuple([ONE if k == at else ZERO for k in range(many)]))


def add(a, b):
    """The sum of two values."""
    return (plus(a[0], b[0]), tuple([plus(x, y) for x, y in zip(a[1], b[1])]))


def subtract(a, b):
    """The difference of two values."""
    return (minus(a[0], b[0]), tuple([minus(x, y) for x, y in zip(a[1], b[1])]))


def scale(factor, a):
    """The product of a fraction and a value."""
    return (times(factor, a[0]), tuple([times(factor, x) for x in a[1]]))


def opposite(a):
    """0 less a value."""
    return (negative(a[0]), tuple([negative(x) for x in a[1]]))


def is_nought(a):
    """Whether a value is 0 at every setting."""
    return a[0] == ZERO and all([x == ZERO for x in a[1]])


def value(a, setting):
    """The fraction that a value is where the parameters have these fractions."""
    return plus(a[0], total([times(x, y) for x, y in zip(a[1], setting)]))
