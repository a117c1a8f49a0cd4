"""Making: the tools of the features of a document, and the body that they make."""

from truepart.fitting import Waits, base_at, end_at, reach_at
from truepart.fronts import Front
from truepart.inventory import is_copy
from truepart.nametexts import name_text
from truepart.sketches import solve_sketch
from truepart.tools import half_tool, mirrored_tool, shifted_tool, tool_between
from truepart.writing import named_places, spots

GREATEST_NORMAL = 1000000000
MOST_TOOLS = 8


def check_names(rows, at):
    """Tells if a name in the feature with an index is behind."""
    places = {row["number"]: k for k, row in enumerate(rows)}
    for name in spots(rows[at]["feature"]):
        if any([places.get(origin[0], -1) >= at for origin in name[1]]):
            raise Waits(f"{name_text(name)} is behind")


def means_by_place(row):
    """A dict from the word for a place of a feature to what the places of its name mean; None without a name."""
    found = {"spot": None, "from": None, "to": None}
    for word, means in zip(named_places(row["feature"]), row["means"]):
        found[word] = means
    return found


def is_long(tool):
    """Whether a part of a normal of a tool is too great."""
    return any([abs(part) > GREATEST_NORMAL for side in tool[1] for part in side[1]])


def shifted_tools(number, feature, tools):
    """The tools of a shifted copy."""
    if len(tools) * feature["count"] > MOST_TOOLS:
        raise Waits("too many copies")
    found = []
    for k in range(1, feature["count"] + 1):
        for tool in tools:
            found.append(shifted_tool(number, k, tool, feature["shift"]))
    return found


def mirrored_tools(front, row, tools):
    """The tools of a mirrored copy."""
    feature = row["feature"]
    direction = feature["direction"]
    at = reach_at(front, direction, feature["spot"], means_by_place(row)["spot"])
    found = [mirrored_tool(row["number"], 1, tool, direction, at) for tool in tools]
    if any([is_long(tool) for tool in found]):
        raise Waits("too long a normal")
    return found


def copy_tools(front, row):
    """The tools of a copy."""
    feature = row["feature"]
    tools = front.tools_of(feature["of"])
    if not tools:
        raise Waits(f"feature {feature['of']} waits")
    if "shift" in feature:
        return shifted_tools(row["number"], feature, tools)
    return mirrored_tools(front, row, tools)


def line_offsets(feature):
    """The offsets of the lines of a sketch; tells if they are not determined."""
    state, found = solve_sketch(feature["lines"], feature["dimensions"])
    if state != "determined":
        raise Waits(f"{state}: " + ", ".join([str(part) for part in found]))
    return found


def sketch_tools(front, row):
    """The list of the one tool of a sketch."""
    feature = row["feature"]
    meant = means_by_place(row)
    base = base_at(front, feature["spot"], meant["spot"])
    offsets = line_offsets(feature)
    ends = [end_at(front, feature["w"], feature[word], meant[word]) for word in ("from", "to")]
    return [tool_between(row["number"], feature, offsets, base, ends)]


def feature_tools(front, rows, at):
    """The tools of the feature with an index, which is not suppressed."""
    row = rows[at]
    feature = row["feature"]
    check_names(rows, at)
    if is_copy(feature):
        return copy_tools(front, row)
    if "lines" in feature:
        return sketch_tools(front, row)
    offset = reach_at(front, feature["direction"], feature["spot"], means_by_place(row)["spot"])
    return [half_tool(row["number"], feature, offset)]


def front_of(document, setting):
    """The tools of all features of a document at a setting, and the list of (number, state, why)."""
    front = Front(document.low, document.high, setting)
    told = []
    for at, row in enumerate(document.features):
        number = row["number"]
        if row["suppressed"]:
            told.append((number, "suppressed", ""))
        else:
            try:
                front.take(number, feature_tools(front, document.features, at))
                told.append((number, "made", ""))
            except Waits as found:
                told.append((number, "waits", found.why))
    return front, told


def make(document, setting):
    """The body of a document at a setting, and the list of (number, state, why) of its features."""
    front, told = front_of(document, setting)
    return front.body(), told
