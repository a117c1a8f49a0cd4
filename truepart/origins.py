"""Origins of sides: tuples (feature, occurrences, name)."""

from truepart.characters import LETTERS_AND_DIGITS, SMALL_LETTERS, is_plain_number, is_short_word
from truepart.errors import TextFault

MOST_OCCURRENCES = 12
NUMBER_DIGITS = 6


def is_side_name(text):
    """Whether a text can be the name of a side."""
    return is_short_word(text, SMALL_LETTERS, LETTERS_AND_DIGITS)


def read_origin(text):
    """The origin that a text tells."""
    *numbers, name = text.split(".")
    if not is_side_name(name) or not 1 <= len(numbers) <= MOST_OCCURRENCES + 1:
        raise TextFault(1, 1)
    if not all([is_plain_number(number, NUMBER_DIGITS) for number in numbers]) or "0" in numbers[1:]:
        raise TextFault(1, 1)
    feature, *occurrences = [int(number) for number in numbers]
    return (feature, tuple(occurrences), name)


def origin_text(origin):
    """The text of an origin."""
    feature, occurrences, name = origin
    return ".".join([str(number) for number in (feature, *occurrences)] + [name])
