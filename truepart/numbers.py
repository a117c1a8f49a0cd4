"""Fractions: pairs (n, d) of integers in lowest terms, d above 0."""

from math import gcd
from truepart.characters import DIGITS, row_end
from truepart.errors import Nought, TextFault

ZERO = (0, 1)
ONE = (1, 1)

MOST_DIGITS = 12


def common(a, b):
    """The greatest common divisor of two integers, not below 0."""
    return gcd(a, b)


def fraction(number, divisor=1):
    """The fraction number / divisor of two integers."""
    # Most numbers are whole, and then nothing is to be divided.
    if divisor == 1:
        return (number, 1)
    if divisor == 0:
        raise Nought("division by 0")
    shared = gcd(number, divisor)
    if divisor < 0:
        shared = -shared
    return (number // shared, divisor // shared)


def plus(a, b):
    """The sum of two fractions."""
    return fraction(a[0] * b[1] + b[0] * a[1], a[1] * b[1])


def minus(a, b):
    """The difference of two fractions."""
    return fraction(a[0] * b[1] - b[0] * a[1], a[1] * b[1])


def times(a, b):
    """The product of two fractions."""
    return fraction(a[0] * b[0], a[1] * b[1])


def over(a, b):
    """The quotient of two fractions."""
    return fraction(a[0] * b[1], a[1] * b[0])


def negative(a):
    """0 less a fraction."""
    return (-a[0], a[1])


def less(a, b):
    """Whether the first fraction is less than the second."""
    return a[0] * b[1] < b[0] * a[1]


def sign(a):
    """-1, 0 or 1, as a fraction is below, at or above 0."""
    if a[0] < 0:
        return -1
    if a[0] > 0:
        return 1
    return 0


def without_sign(a):
    """A fraction without its sign."""
    return (abs(a[0]), a[1])


def middle(a, b):
    """Half the sum of two fractions."""
    return fraction(a[0] * b[1] + b[0] * a[1], 2 * a[1] * b[1])


def total(row):
    """The sum of a list of fractions."""
    found = ZERO
    for part in row:
        found = plus(found, part)
    return found


def decimal(number):
    """The decimal digits of an integer that is not below 0."""
    # Python refuses to write an integer of more than 4300 digits in one go.
    rows = []
    while number >= 10 ** 64:
        number, rest = divmod(number, 10 ** 64)
        rows.append(str(rest).zfill(64))
    rows.append(str(number))
    return "".join(reversed(rows))


def told(a):
    """The text of a fraction."""
    number, divisor = a
    text = decimal(abs(number))
    if number < 0:
        text = "-" + text
    if divisor != 1:
        text = text + "/" + decimal(divisor)
    return text


def read_digits(text, at):
    """The integer whose 1 to 12 digits start at an index, and the index behind them."""
    end = row_end(text, at, DIGITS)
    if end == at or end - at > MOST_DIGITS:
        raise TextFault(1, at + 1)
    return int(text[at:end]), end


def read_ratio(text, at):
    """The fraction without a sign that starts at an index, and the index behind it."""
    number, end = read_digits(text, at)
    if end == len(text) or text[end] != "/":
        return fraction(number), end
    start = end + 1
    divisor, end = read_digits(text, start)
    if divisor == 0:
        raise TextFault(1, start + 1)
    return fraction(number, divisor), end


def read_fraction(text):
    """The fraction that a text tells."""
    is_below = text.startswith("-")
    start = 1 if is_below else 0
    found, end = read_ratio(text, start)
    if end < len(text):
        raise TextFault(1, end + 1)
    return negative(found) if is_below else found
