"""Tools: parts of space, told by sides that go along with the parameters."""

from truepart.affine import add, scale, subtract
from truepart.areas import joined_parts
from truepart.numbers import fraction
from truepart.products import inner
from truepart.sketches import solve_sketch
from truepart.vectors import cross, dot, primitive, volume


def spread(normal, point):
    """The product of a direction and a triple of values, a value."""
    x, y, z = [scale(fraction(part), found) for part, found in zip(normal, point)]
    return add(add(x, y), z)


def side_of(origin, direction, offset, above):
    """The side at the plane of a direction and an offset, a value; above goes by the direction."""
    normal, divisor = primitive(direction)
    return (origin, normal, scale(fraction(1, divisor), offset), above == (divisor > 0))


def line_side(number, feature, base, at, offset):
    """The side of the line of a sketch with an index, which has an offset."""
    name, (a, b) = feature["lines"][at][:2]
    u, v, w = feature["u"], feature["v"], feature["w"]
    size = volume(u, v, w)
    # The product with w x (a * u + b * v) is a * y - b * x times the triple product of u, v, w, from the base on.
    direction = cross(w, tuple([a * x + b * y for x, y in zip(u, v)]))
    whole = add(spread(direction, base), scale(fraction(size), offset))
    return side_of((number, (), name), direction, whole, size > 0)


def end_side(origin, feature, base, end, is_named):
    """The side beyond an end of a sketch: a value, or a plane if the end is on a name."""
    u, v, w = feature["u"], feature["v"], feature["w"]
    if is_named:
        normal, offset = end
        return (origin, normal, offset, dot(normal, w) > 0)
    size = volume(u, v, w)
    direction = cross(u, v)
    whole = add(spread(direction, base), scale(fraction(size), end))
    return side_of(origin, direction, whole, size > 0)


def area_test(area, places):
    """The test of an area; places tell the index of each line's side."""
    kind = area[0]
    if kind == "left":
        return ("side", places[area[1]])
    if kind == "right":
        return ("not", ("side", places[area[1]]))
    if kind == "not":
        return ("not", area_test(area[1], places))
    # Parts that hang together are gone through by a loop, since their row can be long.
    found = None
    for part in joined_parts(area):
        test = area_test(part, places)
        found = test if found is None else (kind, found, test)
    return found


def opposite_side(side):
    """The other half of a side."""
    origin, normal, offset, above = side
    return (origin, normal, offset, not above)


def tool_between(number, feature, offsets, base, ends):
    """The tool of a sketch whose lines have these offsets."""
    lines = feature["lines"]
    sides = [line_side(number, feature, base, at, offset) for at, offset in enumerate(offsets)]
    low = end_side((number, (), "low"), feature, base, ends[0], feature["from"][0] is not None)
    high = end_side((number, (), "high"), feature, base, ends[1], feature["to"][0] is not None)
    area = area_test(feature["area"], {line[0]: at for at, line in enumerate(lines)})
    many = len(lines)
    test = ("both", ("both", area, ("side", many)), ("side", many + 1))
    return (feature["op"], sides + [low, opposite_side(high)], test)


def sketch_tool(number, feature, base, ends):
    """("made", tool) of a sketch, or what there is to say of its lines."""
    state, found = solve_sketch(feature["lines"], feature["dimensions"])
    if state != "determined":
        return (state, found)
    return ("made", tool_between(number, feature, found, base, ends))


def half_tool(number, feature, offset):
    """The tool of a half whose plane's product with the direction is a value."""
    return (feature["op"], [side_of((number, (), "half"), feature["direction"], offset, True)], ("side", 0))


def copied_origin(number, k, origin):
    """The origin of a side's occurrence k in the copy with this number."""
    return (number, (k, *origin[1]), origin[2])


def shifted_tool(number, k, tool, shift):
    """The occurrence k of a tool in the shifted copy with this number."""
    op, sides, test = tool
    found = []
    for origin, normal, offset, above in sides:
        moved = add(offset, scale(fraction(k), spread(normal, shift)))
        found.append((copied_origin(number, k, origin), normal, moved, above))
    return (op, found, test)


def mirrored_side(origin, side, direction, at):
    """A side mirrored at the plane whose product with a direction is a value."""
    normal, offset, above = side[1:]
    size = inner(direction, direction)
    twice = 2 * inner(normal, direction)
    # All times the product of the direction with itself, so that the parts stay integers.
    turned = tuple([size * a - twice * b for a, b in zip(normal, direction)])
    moved = subtract(scale(fraction(size), offset), scale(fraction(twice), at))
    return side_of(origin, turned, moved, above)


def mirrored_tool(number, k, tool, direction, at):
    """The occurrence k of a tool in the mirrored copy with this number."""
    op, sides, test = tool
    return (op, [mirrored_side(copied_origin(number, k, side[0]), side, direction, at) for side in sides], test)
