"""Which sides the features of a document have, by their texts."""

from truepart.bodies import ROOM_SIDES
from truepart.writing import side_names


def is_copy(feature):
    """Whether a feature is a copy."""
    return feature["op"] == "copy"


def times_of(feature):
    """How many occurrences a copy has of what it copies."""
    return feature["count"] if "shift" in feature else 1


def feature_of(rows, number):
    """The feature with a number among some features of a document, or None."""
    for row in rows:
        if row["number"] == number:
            return row["feature"]
    return None


def path_of(rows, origin):
    """The features that an origin is of: pairs of a number and the occurrence, which is None of the last one."""
    number, occurrences, _ = origin
    found = []
    for k in occurrences:
        found.append((number, k))
        feature = feature_of(rows, number)
        if feature is None or not is_copy(feature):
            return found
        number = feature["of"]
    found.append((number, None))
    return found


def has_side(rows, origin):
    """Whether the room or one of some features of a document has the side with an origin."""
    number, occurrences, name = origin
    if number == 0:
        return occurrences == () and name in ROOM_SIDES
    feature = feature_of(rows, number)
    for k in occurrences:
        if feature is None or not is_copy(feature) or k > times_of(feature):
            return False
        feature = feature_of(rows, feature["of"])
    return feature is not None and name in side_names(feature)


def many_of(rows, feature):
    """How many sides a feature of a document has."""
    many = 1
    passed = 0
    while feature is not None and is_copy(feature):
        # Features that were moved can copy one another in a ring.
        if passed == len(rows):
            return 0
        many = many * times_of(feature)
        feature = feature_of(rows, feature["of"])
        passed += 1
    return 0 if feature is None else many * len(side_names(feature))


def count_sides(rows):
    """How many sides a document with these features has."""
    return len(ROOM_SIDES) + sum([many_of(rows, row["feature"]) for row in rows])
