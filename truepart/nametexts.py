"""The texts of names: tuples (kind, origins, facing, place)."""

from truepart.characters import is_plain_number
from truepart.errors import TextFault
from truepart.origins import origin_text, read_origin

PLACE_DIGITS = 2


def read_origins(words):
    """The tuple of the origins that words tell, no two of them the same."""
    origins = [read_origin(word) for word in words]
    if len(set(origins)) < len(origins):
        raise TextFault(1, 1)
    return tuple(origins)


def read_sorted_origins(words):
    """The tuple of the origins that words tell, in their order."""
    return tuple(sorted(read_origins(words)))


def read_facing(words):
    """The facing that a list of one word tells; without a word there is none."""
    if not words:
        return ""
    if words[0] not in ("up", "down"):
        raise TextFault(1, 1)
    return words[0]


def read_place(word):
    """The pair (I, K) that a word I/K tells."""
    numbers = word.split("/")
    if len(numbers) != 2 or not all([is_plain_number(number, PLACE_DIGITS) for number in numbers]):
        raise TextFault(1, 1)
    at, many = [int(number) for number in numbers]
    if not 1 <= at <= many:
        raise TextFault(1, 1)
    return (at, many)


def read_name(text):
    """The name that a text tells."""
    words = text.split(" ")
    kind = words[0]
    many = len(words)
    if kind == "plane" and many == 2:
        return ("plane", read_origins(words[1:]), "", None)
    if kind == "face" and many in (2, 3):
        return ("face", read_origins(words[1:2]), read_facing(words[2:]), None)
    if kind == "face" and many in (5, 6) and words[2] == "by":
        return ("piece", read_origins([words[1], words[3]]), read_facing(words[5:]), read_place(words[4]))
    if kind == "edge" and many == 4:
        return ("edge", read_sorted_origins(words[1:3]), "", read_place(words[3]))
    if kind == "corner" and many == 4:
        return ("corner", read_sorted_origins(words[1:]), "", None)
    raise TextFault(1, 1)


def name_text(name):
    """The text of a name."""
    kind, origins, facing, place = name
    words = [kind] + [origin_text(origin) for origin in origins]
    if kind == "piece":
        words = ["face", words[1], "by", words[2]]
    if place is not None:
        words.append(f"{place[0]}/{place[1]}")
    if facing:
        words.append(facing)
    return " ".join(words)
