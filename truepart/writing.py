"""The texts of features, written again."""

from truepart.affine import is_nought
from truepart.areas import area_text
from truepart.errors import TextFault
from truepart.expressions import expression_text
from truepart.features import read_feature
from truepart.nametexts import name_text
from truepart.tokens import MOST_CHARACTERS


def quoted(text):
    """A text in quotes."""
    return '"' + text + '"'


def bracketed(texts):
    """Texts in brackets, with commas between them."""
    return "(" + ", ".join(texts) + ")"


def value_text(names, found):
    """The expression of a value, in quotes."""
    return quoted(expression_text(names, found))


def triple_text(names, triple):
    """The text of three values."""
    return bracketed([value_text(names, found) for found in triple])


def integers_text(parts):
    """The text of a direction or a pair."""
    return bracketed([str(part) for part in parts])


def spot_text(names, spot):
    """The text of a spot."""
    name, triple = spot
    if name is None:
        return triple_text(names, triple)
    text = quoted(name_text(name))
    if all([is_nought(found) for found in triple]):
        return text
    return text + " plus " + triple_text(names, triple)


def end_text(names, end):
    """The text of an end."""
    name, found = end
    if name is None:
        return value_text(names, found)
    return "on " + quoted(name_text(name))


def line_text(names, line):
    """The text of a line of a sketch."""
    name, pair, through = line
    words = ["line", name, integers_text(pair)]
    if through is not None:
        words = words + ["through"] + [value_text(names, found) for found in through]
    return " ".join(words) + ";"


def dimension_text(names, lines, dimension):
    """The text of a dimension of a sketch."""
    kind = dimension[0]
    found = value_text(names, dimension[-1])
    many = 4 if kind == "between" else 2
    told = [lines[at][0] for at in dimension[1:1 + many]]
    words = ["dim", "corner", told[0], told[1]]
    if kind == "apart":
        words = ["dim", told[0], "to", told[1], "along", integers_text(dimension[3])]
    elif kind == "at":
        words = words + ["at", dimension[3]]
    else:
        words = words + ["to", "corner", told[2], told[3], "along", dimension[5]]
    return " ".join(words + [found]) + ";"


def sketch_text(names, feature):
    """The text of a sketch."""
    head = [feature["op"], "at", spot_text(names, feature["spot"])]
    for axis in ("u", "v", "w"):
        head = head + [axis, integers_text(feature[axis])]
    rows = [" ".join(head + ["{"])]
    for line in feature["lines"]:
        rows.append("  " + line_text(names, line))
    for dimension in feature["dimensions"]:
        rows.append("  " + dimension_text(names, feature["lines"], dimension))
    start = end_text(names, feature["from"])
    stop = end_text(names, feature["to"])
    rows.append("} area " + area_text(feature["area"]) + "; from " + start + " to " + stop + ";")
    return "\n".join(rows) + "\n"


def plane_spot_text(names, feature):
    """The text of a direction and a spot."""
    return integers_text(feature["direction"]) + " at " + spot_text(names, feature["spot"])


def copy_text(names, feature):
    """The text of a copy."""
    text = "copy " + str(feature["of"])
    if "shift" in feature:
        text = text + " shift " + triple_text(names, feature["shift"]) + " times " + str(feature["count"])
    else:
        text = text + " mirror " + plane_spot_text(names, feature)
    return text + ";\n"


def feature_text(names, feature):
    """The text of a feature."""
    if feature["op"] == "copy":
        text = copy_text(names, feature)
    elif "lines" in feature:
        text = sketch_text(names, feature)
    else:
        text = feature["op"] + " half " + plane_spot_text(names, feature) + ";\n"
    if len(text) > MOST_CHARACTERS:
        raise TextFault(1, 1)
    return text


def rewritten(names, text):
    """The text of a feature, written again."""
    return feature_text(names, read_feature(names, text))


def named_places(feature):
    """The words for the places of a feature that stand on names: of its spot, then of its ends."""
    return [word for word in ("spot", "from", "to") if word in feature and feature[word][0] is not None]


def spots(feature):
    """The list of the names in a feature: that of its spot, then those of its ends."""
    return [feature[word][0] for word in named_places(feature)]


def side_names(feature):
    """The list of the names of the sides of a feature."""
    if feature["op"] == "copy":
        return []
    if "lines" in feature:
        return [line[0] for line in feature["lines"]] + ["low", "high"]
    return ["half"]
