"""The small parts of the texts of features: expressions, names, directions, pairs, spots, ends."""

from truepart.affine import constant
from truepart.errors import TextFault
from truepart.expressions import read_expression
from truepart.nametexts import read_name
from truepart.numbers import ZERO
from truepart.tokens import refuse

GREATEST_PART = 100


def read_value(names, reader):
    """The value of the expression in quotes that comes next."""
    content = reader.take("quote")
    try:
        return read_expression(names, content)
    except TextFault:
        reader.refuse_taken()


def read_quoted_name(reader):
    """The name in quotes that comes next."""
    content = reader.take("quote")
    try:
        return read_name(content)
    except TextFault:
        reader.refuse_taken()


def read_triple(names, reader):
    """The three values in brackets that come next."""
    reader.expect("sign", "(")
    found = [read_value(names, reader)]
    for _ in range(2):
        reader.expect("sign", ",")
        found.append(read_value(names, reader))
    reader.expect("sign", ")")
    return tuple(found)


def read_integers(reader, many):
    """So many integers in brackets, not all of them 0 and none too great."""
    reader.expect("sign", "(")
    start = reader.taken_place()
    found = [reader.take("integer")]
    while len(found) < many:
        reader.expect("sign", ",")
        found.append(reader.take("integer"))
    reader.expect("sign", ")")
    if not 1 <= max([abs(part) for part in found]) <= GREATEST_PART:
        refuse(reader.text, start)
    return tuple(found)


def read_direction(reader):
    """The direction that comes next."""
    return read_integers(reader, 3)


def read_pair(reader):
    """The pair that comes next."""
    return read_integers(reader, 2)


def read_spot(names, reader):
    """The spot that comes next: a pair of a name, or None, and a triple of values."""
    if reader.stands("sign", "("):
        return (None, read_triple(names, reader))
    name = read_quoted_name(reader)
    if reader.skip("word", "plus"):
        return (name, read_triple(names, reader))
    return (name, (constant(ZERO, len(names)),) * 3)


def read_end(names, reader):
    """The end that comes next: (None, value) or (name, None)."""
    if reader.skip("word", "on"):
        return (read_quoted_name(reader), None)
    return (None, read_value(names, reader))
