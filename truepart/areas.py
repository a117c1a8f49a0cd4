"""Areas: parts of a sketch that are told by the sides of its lines."""

from truepart.readers import Reader

MOST_AROUND = 20

# How tightly the parts of an area hang together; all others do so most tightly.
LOOSE = {"either": 0, "both": 1}
TIGHT = 2
SIGN_BETWEEN = {"either": " | ", "both": " & "}


def read_factor(reader, lines, around):
    """The factor that comes next, with so many signs ! and brackets around it."""
    if around == MOST_AROUND and (reader.stands("sign", "!") or reader.stands("sign", "(")):
        reader.refuse_next()
    if reader.skip("sign", "!"):
        return ("not", read_factor(reader, lines, around + 1))
    if reader.skip("sign", "("):
        found = read_sum(reader, lines, around + 1)
        reader.expect("sign", ")")
        return found
    side = reader.choose("word", ("left", "right"))
    return (side, reader.choose("word", lines))


def read_product(reader, lines, around):
    """The product that comes next."""
    found = read_factor(reader, lines, around)
    while reader.skip("sign", "&"):
        found = ("both", found, read_factor(reader, lines, around))
    return found


def read_sum(reader, lines, around):
    """The sum that comes next."""
    found = read_product(reader, lines, around)
    while reader.skip("sign", "|"):
        found = ("either", found, read_product(reader, lines, around))
    return found


def read_area(lines, text):
    """The area that a text tells, by lines with these names."""
    reader = Reader(text)
    found = read_sum(reader, lines, 0)
    reader.finish()
    return found


def joined_parts(area):
    """The parts that hang together by the same sign, in order."""
    # A loop, since a row of parts can be longer than calls can go deep.
    kind = area[0]
    parts = []
    while area[0] == kind:
        parts.append(area[2])
        area = area[1]
    parts.append(area)
    parts.reverse()
    return parts


def part_text(area, least):
    """The text of an area, in brackets unless it hangs together at least so tightly."""
    text = area_text(area)
    if LOOSE.get(area[0], TIGHT) < least:
        return "(" + text + ")"
    return text


def area_text(area):
    """The text of an area."""
    kind = area[0]
    if kind == "not":
        return "!" + part_text(area[1], TIGHT)
    if kind in SIGN_BETWEEN:
        parts = [part_text(part, LOOSE[kind] + 1) for part in joined_parts(area)]
        return SIGN_BETWEEN[kind].join(parts)
    return kind + " " + area[1]


def area_holds(area, left):
    """Whether a point is in an area, if it is on the left of these lines."""
    kind = area[0]
    if kind == "left":
        return left[area[1]]
    if kind == "right":
        return not left[area[1]]
    if kind == "not":
        return not area_holds(area[1], left)
    held = [area_holds(part, left) for part in joined_parts(area)]
    return all(held) if kind == "both" else any(held)
