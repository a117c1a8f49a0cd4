"""What several tests need to make documents."""

from solids import block_text
from truepart.documents import Document
from truepart.edits import apply
from truepart.modellers import Modeller
from truepart.numbers import read_fraction
from truepart.origins import read_origin

LOW = ("0", "0", "0")
HIGH = ("10", "10", "10")

BLOCK = block_text("add", (2, 8), (3, 7), (1, 4))
SLOT = block_text("cut", (1, 9), (4, 5), (2, 5))
HALF = 'keep half (1, 0, 1) at ("9", "0", "0");'


def sketch_text(op="add", spot='("0", "0", "0")', lines="abcd", start='"1"', stop='"4"', dims="", area=None):
    """A block between lines a, b, c, d, of which those that are not told are left out; its ends can be told."""
    told = {"a": '(1, 0) through "0" "3"', "b": '(0, 1) through "8" "0"',
            "c": '(-1, 0) through "0" "7"', "d": '(0, -1) through "2" "0"'}
    rows = " ".join(f"line {name} {told[name]};" for name in lines)
    where = area or " & ".join("left " + name for name in lines)
    return f"{op} at {spot} u (1, 0, 0) v (0, 1, 0) w (0, 0, 1) {{ {rows} {dims} }} area {where}; " \
           f"from {start} to {stop};"


def modeller(*texts, parameters=()):
    """A modeller in which hand 1 has declared parameters and inserted features."""
    found = Modeller(LOW, HIGH)
    for row in parameters:
        found.declare(1, *row)
    for text in texts:
        found.insert_feature(1, text)
    return found


def document(*edits):
    """The document that edits make."""
    found = Document(((0, 1),) * 3, ((10, 1),) * 3)
    for edit in edits:
        found, _ = apply(found, edit)
    return found


def declared(name, value, low="0", high="10"):
    """The edit that declares a parameter."""
    return ("declare", name, read_fraction(value), read_fraction(low), read_fraction(high))


def inserted(text, place=None):
    return ("insert", text, place)


def snapshot(made):
    """All that a document has, to compare."""
    return (made.low, made.high, made.parameters, made.features, made.kept, made.last_feature, made.last_name)


def meant(words):
    """The list of the origins that words tell."""
    return [read_origin(word) for word in words.split()]
