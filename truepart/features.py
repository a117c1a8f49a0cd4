"""Features as they are told by texts: dicts."""

from truepart.areas import read_sum
from truepart.origins import is_side_name
from truepart.phrases import read_direction, read_end, read_pair, read_spot, read_triple, read_value
from truepart.readers import Reader
from truepart.tokens import refuse
from truepart.vectors import parallel, volume

MOST_LINES = 6
MOST_DIMENSIONS = 8
MOST_TIMES = 4
BARRED_LINES = ("low", "high", "half")
AXES = ("u", "v")


def read_line(names, reader, earlier):
    """The line of a sketch that comes next, behind the word line and earlier lines."""
    name = reader.take("word")
    if not is_side_name(name) or name in BARRED_LINES:
        reader.refuse_taken()
    if len(earlier) == MOST_LINES or name in [line[0] for line in earlier]:
        reader.refuse_taken()
    pair = read_pair(reader)
    through = None
    if reader.skip("word", "through"):
        through = (read_value(names, reader), read_value(names, reader))
    reader.expect("sign", ";")
    return (name, pair, through)


def read_known_line(reader, lines):
    """The index of the line whose name comes next."""
    name = reader.take("word")
    known = [line[0] for line in lines]
    if name not in known:
        reader.refuse_taken()
    return known.index(name)


def read_corner(reader, lines):
    """The indexes of the two lines that come next, which must meet."""
    first = read_known_line(reader, lines)
    start = reader.taken_place()
    second = read_known_line(reader, lines)
    if parallel(lines[first][1], lines[second][1]):
        refuse(reader.text, start)
    return (first, second)


def read_corner_dimension(names, reader, lines):
    """The dimension of a corner that comes next, behind the words dim corner."""
    first = read_corner(reader, lines)
    if reader.choose("word", ("at", "to")) == "at":
        axis = reader.choose("word", AXES)
        return ("at", *first, axis, read_value(names, reader))
    reader.expect("word", "corner")
    second = read_corner(reader, lines)
    reader.expect("word", "along")
    axis = reader.choose("word", AXES)
    return ("between", *first, *second, axis, read_value(names, reader))


def read_line_dimension(names, reader, lines):
    """The dimension of two lines that comes next, behind the word dim."""
    first = read_known_line(reader, lines)
    reader.expect("word", "to")
    second = read_known_line(reader, lines)
    reader.expect("word", "along")
    pair = read_pair(reader)
    direction = lines[first][1]
    if first == second or not parallel(direction, lines[second][1]) or parallel(direction, pair):
        reader.refuse_taken()
    return ("apart", first, second, pair, read_value(names, reader))


def read_dimension(names, reader, lines, earlier):
    """The dimension of a sketch that comes next, behind the word dim and earlier dimensions."""
    if len(earlier) == MOST_DIMENSIONS:
        reader.refuse_taken()
    if reader.skip("word", "corner"):
        found = read_corner_dimension(names, reader, lines)
    else:
        found = read_line_dimension(names, reader, lines)
    reader.expect("sign", ";")
    return found


def read_frame(names, reader):
    """The spot and the directions u, v, w of a sketch that come next."""
    frame = {"spot": read_spot(names, reader)}
    for axis in ("u", "v", "w"):
        reader.expect("word", axis)
        frame[axis] = read_direction(reader)
    if volume(frame["u"], frame["v"], frame["w"]) == 0:
        reader.refuse_taken()
    return frame


def read_sketch(names, reader):
    """The sketch that comes next, without the word at."""
    sketch = read_frame(names, reader)
    lines = []
    dimensions = []
    reader.expect("sign", "{")
    while reader.skip("word", "line"):
        lines.append(read_line(names, reader, lines))
    while reader.skip("word", "dim"):
        dimensions.append(read_dimension(names, reader, lines, dimensions))
    reader.expect("sign", "}")
    reader.expect("word", "area")
    sketch["lines"] = lines
    sketch["dimensions"] = dimensions
    sketch["area"] = read_sum(reader, [line[0] for line in lines], 0)
    reader.expect("sign", ";")
    for word in ("from", "to"):
        reader.expect("word", word)
        sketch[word] = read_end(names, reader)
    reader.expect("sign", ";")
    return sketch


def read_plane_spot(names, reader):
    """The direction that comes next, and the spot behind it."""
    direction = read_direction(reader)
    reader.expect("word", "at")
    return {"direction": direction, "spot": read_spot(names, reader)}


def read_shift(names, reader):
    """The shift that comes next, without its first word, and how often it is done."""
    shift = read_triple(names, reader)
    reader.expect("word", "times")
    count = reader.take("integer")
    if not 1 <= count <= MOST_TIMES:
        reader.refuse_taken()
    return {"shift": shift, "count": count}


def read_copy(names, reader):
    """The copy that comes next, without the word copy."""
    number = reader.take("integer")
    if number < 1:
        reader.refuse_taken()
    if reader.choose("word", ("shift", "mirror")) == "shift":
        found = read_shift(names, reader)
    else:
        found = read_plane_spot(names, reader)
    found["of"] = number
    reader.expect("sign", ";")
    return found


def read_feature(names, text):
    """The feature that a text tells."""
    reader = Reader(text)
    op = reader.choose("word", ("add", "cut", "keep", "copy"))
    if op == "copy":
        feature = read_copy(names, reader)
    elif reader.choose("word", ("at", "half")) == "at":
        feature = read_sketch(names, reader)
    else:
        feature = read_plane_spot(names, reader)
        reader.expect("sign", ";")
    feature["op"] = op
    reader.finish()
    return feature
