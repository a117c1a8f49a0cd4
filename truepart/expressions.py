"""Expressions: texts that tell values."""

from truepart.affine import add, constant, opposite, parameter, scale
from truepart.characters import DIGITS, LETTERS, WORD_CHARACTERS, is_short_word, row_end
from truepart.errors import TextFault
from truepart.numbers import ONE, ZERO, common, read_ratio, sign, told, without_sign

# Numbers of a value are short if they are below this.
SHORT = 1000000000000


def is_parameter_name(text):
    """Whether a text is a name that a parameter can have."""
    return is_short_word(text, LETTERS, WORD_CHARACTERS)


def is_short(found):
    """Whether the numbers of a value, brought to their least common denominator, are short."""
    base, slopes = found
    divisor = 1
    for part in (base, *slopes):
        divisor = divisor // common(divisor, part[1]) * part[1]
    numbers = [abs(part[0]) * (divisor // part[1]) for part in (base, *slopes)]
    return divisor < SHORT and max(numbers) < SHORT


def after_blanks(text, at):
    """The index of the first character, from an index on, that is no blank."""
    return row_end(text, at, " ")


def is_at(text, at, signs):
    """Whether one of these characters stands at an index."""
    return at < len(text) and text[at] in signs


def read_parameter(names, text, at):
    """The value of the parameter whose name starts at an index, and the index behind it."""
    end = row_end(text, at, WORD_CHARACTERS)
    word = text[at:end]
    if word not in names:
        raise TextFault(1, at + 1)
    return parameter(names.index(word), len(names)), end


def read_term(names, text, at):
    """The value of the term that starts at an index, and the index behind it and its blanks."""
    if is_at(text, at, DIGITS):
        number, end = read_ratio(text, at)
        end = after_blanks(text, end)
        if not is_at(text, end, "*"):
            return constant(number, len(names)), end
        found, end = read_parameter(names, text, after_blanks(text, end + 1))
        found = scale(number, found)
    else:
        found, end = read_parameter(names, text, at)
    return found, after_blanks(text, end)


def read_expression(names, text):
    """The value that an expression tells."""
    at = after_blanks(text, 0)
    is_below = is_at(text, at, "-")
    if is_below:
        at = after_blanks(text, at + 1)
    found, at = read_term(names, text, at)
    if is_below:
        found = opposite(found)
    while at < len(text):
        if not is_at(text, at, "+-"):
            raise TextFault(1, at + 1)
        is_below = is_at(text, at, "-")
        term, at = read_term(names, text, after_blanks(text, at + 1))
        found = add(found, opposite(term) if is_below else term)
    if not is_short(found):
        raise TextFault(1, 1)
    return found


def term_text(name, slope):
    """The text of a parameter's term, without its sign."""
    size = without_sign(slope)
    if size == ONE:
        return name
    return told(size) + "*" + name


def expression_text(names, found):
    """The text of a value."""
    base, slopes = found
    terms = [(slope, term_text(name, slope)) for name, slope in zip(names, slopes) if slope != ZERO]
    if base != ZERO or not terms:
        terms.append((base, told(without_sign(base))))
    text = ""
    for part, term in terms:
        is_below = sign(part) < 0
        if text:
            text = text + (" - " if is_below else " + ") + term
        else:
            text = ("-" if is_below else "") + term
    return text
