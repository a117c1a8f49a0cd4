"""What several tests need to make bodies."""

from truepart.affine import value
from truepart.features import read_feature
from truepart.numbers import fraction
from truepart.origins import read_origin
from truepart.placing import placed_body
from truepart.planes import along
from truepart.tools import half_tool, sketch_tool

LOW = ((0, 1), (0, 1), (0, 1))
HIGH = ((10, 1), (10, 1), (10, 1))


def at(x, y, z):
    """A point whose parts are integers, or pairs."""
    return tuple(part if isinstance(part, tuple) else (part, 1) for part in (x, y, z))


def points(*rows):
    return [at(*row) for row in rows]


def worth(base, *slopes):
    """A value out of integers or pairs."""
    parts = [part if isinstance(part, tuple) else fraction(part) for part in (base, *slopes)]
    return (parts[0], tuple(parts[1:]))


def origins(text):
    """The list of the origins that words tell."""
    return [read_origin(word) for word in text.split()]


def block_text(op, x, y, z):
    """The text of a block: its lines a, b, c, d are at the low y, the high x, the high y, the low x."""
    return (f'{op} at ("0", "0", "0") u (1, 0, 0) v (0, 1, 0) w (0, 0, 1) {{ line a (1, 0) through "{x[0]}" "{y[0]}";'
            f' line b (0, 1) through "{x[1]}" "{y[0]}"; line c (-1, 0) through "{x[1]}" "{y[1]}";'
            f' line d (0, -1) through "{x[0]}" "{y[1]}"; }} area left a & left b & left c & left d;'
            f' from "{z[0]}" to "{z[1]}";')


def sketch(number, text, names=()):
    """The number and the tool of a sketch without names."""
    feature = read_feature(list(names), text)
    state, tool = sketch_tool(number, feature, feature["spot"][1], [feature["from"][1], feature["to"][1]])
    assert state == "made", (state, tool)
    return (number, tool)


def block(number, op, x, y, z, names=()):
    return sketch(number, block_text(op, x, y, z), names)


def half(number, op, direction, offset):
    return (number, half_tool(number, {"op": op, "direction": direction}, offset))


def body_of(*tools, low=LOW, high=HIGH, setting=()):
    return placed_body(low, high, list(tools), list(setting))


def plain_block():
    """A block from (2, 3, 1) to (8, 7, 4)."""
    return body_of(block(1, "add", (2, 8), (3, 7), (1, 4)))


def slotted_block():
    """The block, with a slot all along x, from y = 4 to y = 5, down to z = 2."""
    return body_of(block(1, "add", (2, 8), (3, 7), (1, 4)), block(2, "cut", (1, 9), (4, 5), (2, 5)))


def is_in(tool, point, setting=()):
    """Whether a point on no plane is in a tool, out of points alone."""
    op, sides, test = tool
    return holds(test, [is_in_half(side, point, list(setting)) for side in sides])


def is_in_half(side, point, setting):
    _, normal, offset, above = side
    reach, least = along(normal, point), value(offset, setting)
    ahead = reach[0] * least[1] - least[0] * reach[1]
    assert ahead != 0
    return (ahead > 0) == above


def holds(test, halves):
    if test[0] == "side":
        return halves[test[1]]
    if test[0] == "not":
        return not holds(test[1], halves)
    parts = [holds(part, halves) for part in test[1:]]
    return all(parts) if test[0] == "both" else any(parts)
