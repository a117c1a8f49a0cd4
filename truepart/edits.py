"""Edits: what makes one document out of another one."""

from truepart.errors import Beyond, Full, NoSide, PartError, Taken, TextFault, Unknown
from truepart.documents import Document
from truepart.expressions import is_parameter_name
from truepart.features import read_feature
from truepart.inventory import count_sides, feature_of, has_side, is_copy
from truepart.meanings import after_change, after_removal, meant_origins, replace_all
from truepart.names import itself
from truepart.nametexts import read_name
from truepart.numbers import less
from truepart.origins import origin_text
from truepart.writing import feature_text, side_names, spots

MOST_PARAMETERS = 4
MOST_FEATURES = 8
MOST_SIDES = 40
MOST_KEPT = 6


def declare(document, name, value, low, high):
    """Declares a parameter, behind the others."""
    if not is_parameter_name(name):
        raise TextFault(1, 1)
    if name in document.names():
        raise Taken(f"there is a parameter {name}")
    if len(document.parameters) == MOST_PARAMETERS:
        raise Full(f"there are {MOST_PARAMETERS} parameters")
    if less(value, low) or less(high, value):
        raise Beyond("the value is outside the range")
    document.parameters.append([name, value, low, high])
    # Values have a slope for each parameter, so those of the features get one more.
    names = document.names()
    document.features = [{**row, "feature": read_feature(names, row["text"])} for row in document.features]


def set_value(document, name, value):
    """Sets the value of a parameter."""
    if name not in document.names():
        raise Unknown(f"there is no parameter {name}")
    at = document.names().index(name)
    _, _, low, high = document.parameters[at]
    if less(value, low) or less(high, value):
        raise Beyond("the value is outside the range")
    document.parameters[at] = [name, value, low, high]


def check_origins(rows, name):
    """Refuses a name with an origin that no side of some features of a document has."""
    for origin in name[1]:
        if not has_side(rows, origin):
            raise NoSide(origin_text(origin))


def check_feature(front, feature):
    """Refuses a feature that copies or names what is not among the features in front of it."""
    if is_copy(feature) and feature_of(front, feature["of"]) is None:
        raise Unknown(f"there is no feature {feature['of']} in front")
    for name in spots(feature):
        check_origins(front, name)


def told_row(document, number, text, suppressed):
    """The feature with a number that a text tells, as it stands in a document."""
    names = document.names()
    feature = read_feature(names, text)
    return {"number": number, "text": feature_text(names, feature), "feature": feature,
            "means": [itself(name) for name in spots(feature)], "suppressed": suppressed}


def take_features(document, rows):
    """Lets a document have these features, unless they have too many sides."""
    if count_sides(rows) > MOST_SIDES:
        raise Full(f"there would be more than {MOST_SIDES} sides")
    document.features = rows


def insert(document, text, place):
    """Inserts a feature with so many others in front of it, or behind all others; returns its number."""
    rows = document.features
    if len(rows) == MOST_FEATURES:
        raise Full(f"there are {MOST_FEATURES} features")
    at = len(rows) if place is None else place
    if not 0 <= at <= len(rows):
        raise Beyond("there are fewer features")
    row = told_row(document, document.last_feature + 1, text, False)
    check_feature(rows[:at], row["feature"])
    take_features(document, rows[:at] + [row] + rows[at:])
    document.last_feature += 1
    return document.last_feature


def check_pairs(old, new, pairs):
    """Refuses pairs of a side and the sides that it becomes, if they are not right for two texts of a feature."""
    had = [] if is_copy(new) else side_names(old)
    taken = []
    for side, _ in pairs:
        if side not in had or side in taken:
            raise NoSide(side)
        taken.append(side)
    has = side_names(new)
    for _, sides in pairs:
        for side in sides:
            if side not in has:
                raise NoSide(side)


def change(document, number, text, pairs):
    """Changes the text of a feature; pairs tell what its sides become."""
    rows = document.features
    at = document.place(number)
    row = told_row(document, number, text, rows[at]["suppressed"])
    check_feature(rows[:at], row["feature"])
    take_features(document, rows[:at] + [row] + rows[at + 1:])
    check_pairs(rows[at]["feature"], row["feature"], pairs)
    became = {}
    for origin in meant_origins(document):
        became[origin] = after_change(rows, number, row["feature"], pairs, origin)
    replace_all(document, became)
    # What the new text tells means itself, and not what this change makes of it.
    document.features[at] = row


def remove(document, number):
    """Removes a feature."""
    rows = document.features
    at = document.place(number)
    document.features = rows[:at] + rows[at + 1:]
    replace_all(document, {origin: after_removal(rows, number, origin) for origin in meant_origins(document)})


def move(document, number, place):
    """Moves a feature so that so many others are in front of it."""
    at = document.place(number)
    others = document.features[:at] + document.features[at + 1:]
    if not 0 <= place <= len(others):
        raise Beyond("there are fewer other features")
    document.features = others[:place] + [document.features[at]] + others[place:]


def suppress(document, number, on):
    """Suppresses a feature, or no longer."""
    at = document.place(number)
    row = document.features[at]
    document.features[at] = {**row, "suppressed": on}


def keep(document, text):
    """Keeps a name; returns its number."""
    name = read_name(text)
    if len(document.kept) == MOST_KEPT:
        raise Full(f"{MOST_KEPT} names are kept")
    check_origins(document.features, name)
    document.last_name += 1
    document.kept.append({"number": document.last_name, "name": name, "means": itself(name)})
    return document.last_name


def perform(document, edit):
    """Changes a document by an edit; returns the number that came, or None."""
    kind, *parts = edit
    if kind == "insert":
        return insert(document, *parts)
    if kind == "keep":
        return keep(document, *parts)
    if kind == "declare":
        declare(document, *parts)
    elif kind == "set":
        set_value(document, *parts)
    elif kind == "change":
        change(document, *parts)
    elif kind == "remove":
        remove(document, *parts)
    elif kind == "move":
        move(document, *parts)
    else:
        suppress(document, *parts)
    return None


def apply(document, edit):
    """A new document behind an edit, and the number that came, or None."""
    made = document.copied()
    number = perform(made, edit)
    return made, number


def count_on(document, edit, number):
    """Lets the number that comes next in a document be the one that came by an edit."""
    if edit[0] == "insert":
        document.last_feature = number - 1
    elif edit[0] == "keep":
        document.last_name = number - 1


def replayed(low, high, rows):
    """(document, None) that edits make from nothing, or (None, number) of the first that cannot be made."""
    document = Document(low, high)
    for number, _, edit, came in rows:
        count_on(document, edit, came)
        try:
            perform(document, edit)
        except PartError:
            return None, number
    return document, None


def without_last(rows, hand):
    """The rows without the last one of a hand, and its number; None if the hand has none."""
    for at in reversed(range(len(rows))):
        if rows[at][1] == hand:
            return rows[:at] + rows[at + 1:], rows[at][0]
    return None
