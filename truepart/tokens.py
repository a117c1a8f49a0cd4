"""The tokens of the texts of areas and features."""

from truepart.characters import DIGITS, LETTERS, LETTERS_AND_DIGITS, is_plain_number, row_end
from truepart.errors import TextFault

MOST_CHARACTERS = 2000
GREATEST_INTEGER = 1000000
GREATEST_DIGITS = 7
SIGNS = "{}(),;/&|!"


def position(text, place):
    """The line and the column of an index of a text."""
    line = text.count("\n", 0, place) + 1
    return (line, place - text.rfind("\n", 0, place))


def refuse(text, place):
    """Tells that a text has a fault at an index."""
    line, column = position(text, place)
    raise TextFault(line, column)


def line_end(text, at):
    """The index of the line feed that ends the line of an index, or of the end of the text."""
    end = text.find("\n", at)
    return len(text) if end < 0 else end


def after_gap(text, at):
    """The index behind the blanks, line feeds and comments that start at an index."""
    while at < len(text) and text[at] in " \n#":
        at = line_end(text, at) if text[at] == "#" else at + 1
    return at


def read_integer(text, at):
    """The integer that starts at an index, and the index behind it."""
    is_below = text[at] == "-"
    start = at + 1 if is_below else at
    end = row_end(text, start, DIGITS)
    digits = text[start:end]
    if not is_plain_number(digits, GREATEST_DIGITS) or int(digits) > GREATEST_INTEGER:
        refuse(text, at)
    if is_below and digits == "0":
        refuse(text, at)
    number = -int(digits) if is_below else int(digits)
    return number, end


def read_quote(text, at):
    """What stands in the quote that starts at an index, and the index behind the quote."""
    end = text.find('"', at + 1)
    if end < 0 or end > line_end(text, at):
        refuse(text, at)
    return text[at + 1:end], end + 1


def read_token(text, at):
    """The token that starts at an index, and the index behind it."""
    first = text[at]
    if first in LETTERS:
        end = row_end(text, at, LETTERS_AND_DIGITS)
        return ("word", text[at:end], at), end
    if first in DIGITS or first == "-":
        number, end = read_integer(text, at)
        return ("integer", number, at), end
    if first == '"':
        content, end = read_quote(text, at)
        return ("quote", content, at), end
    if first not in SIGNS:
        refuse(text, at)
    return ("sign", first, at), at + 1


def tokens(text):
    """The list of the tokens of a text: tuples (kind, content, index of the first character)."""
    if len(text) > MOST_CHARACTERS:
        raise TextFault(1, 1)
    found = []
    at = after_gap(text, 0)
    while at < len(text):
        token, end = read_token(text, at)
        found.append(token)
        at = after_gap(text, end)
    return found
