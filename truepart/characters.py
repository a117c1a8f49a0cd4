"""Kinds of characters, and rows of them in a text."""

DIGITS = "0123456789"
SMALL_LETTERS = "abcdefghijklmnopqrstuvwxyz"
LETTERS = "abcdefghijklmnopqrstuvwxyzABCDEFGHIJKLMNOPQRSTUVWXYZ"
LETTERS_AND_DIGITS = "abcdefghijklmnopqrstuvwxyzABCDEFGHIJKLMNOPQRSTUVWXYZ0123456789"
WORD_CHARACTERS = "abcdefghijklmnopqrstuvwxyzABCDEFGHIJKLMNOPQRSTUVWXYZ0123456789_"

# Names of parameters, of sides and of lines of a sketch are at most so long.
NAME_LENGTH = 16


def row_end(text, at, allowed):
    """The index behind the longest row of allowed characters that starts at an index."""
    while at < len(text) and text[at] in allowed:
        at += 1
    return at


def is_row(text, allowed):
    """Whether a text has at least one character, and allowed ones only."""
    return len(text) > 0 and row_end(text, 0, allowed) == len(text)


def is_short_word(text, first, others):
    """Whether a text is short enough for a name, with such a first character and such others."""
    return is_row(text, others) and len(text) <= NAME_LENGTH and text[0] in first


def is_plain_number(text, most):
    """Whether a text consists of at most so many digits, without needless zeros."""
    return is_row(text, DIGITS) and len(text) <= most and (text == "0" or text[0] != "0")
