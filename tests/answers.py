"""The two inputs whose answers must stay what they were when making was made quicker."""

from hashlib import sha256

from truepart.modellers import Modeller
from truepart.numbers import told
from truepart.origins import origin_text

AXES = {(1, 0, 0): "x", (0, 1, 0): "y", (0, 0, 1): "z"}

BLOCK = '''add at ("0", "0", "0") u (1, 0, 0) v (0, 1, 0) w (0, 0, 1) {
  line a (1, 0) through "0" "1"; line b (0, 1) through "w + 1" "0";
  line c (1, 0) through "0" "4"; line d (0, 1) through "1" "0";
} area left a & left b & right c & right d; from "1" to "h + 1";'''
PAD = '''add at "corner 1.a 1.d 1.high" u (1, 0, 0) v (0, 1, 0) w (0, 0, 1) {
  line a (1, 0) through "0" "1/2"; line b (0, 1) through "1" "0";
  line c (1, 0) through "0" "1"; line d (0, 1) through "1/2" "0";
} area left a & left b & right c & right d; from on "face 1.high" to "w";'''
MIRROR = 'copy 2 mirror (1, 0, 0) at "face 1.b";'

BAR = '''add at ("0", "0", "0") u (1, 0, 0) v (0, 1, 0) w (0, 0, 1) {
  line a (1, 0) through "0" "2"; line b (0, 1) through "w" "0";
  line c (-1, 0) through "0" "7"; line d (0, -1) through "1" "0";
} area left a & left b & left c & left d; from "1" to "4";'''
SLOT = '''cut at ("s", "0", "0") u (1, 0, 0) v (0, 1, 0) w (0, 0, 1) {
  line a (1, 0) through "0" "0"; line b (0, 1) through "1" "0";
  line c (-1, 0) through "0" "10"; line d (0, -1) through "0" "0";
} area left a & left b & left c & left d; from "3" to "5";'''
KEPT = ("face 1.high", "face 1.high by 2.b 1/1", "face 1.high by 2.d 1/1", "face 2.b", "plane 1.high",
        "edge 1.high 2.d 1/1")


def padded():
    """A block with a pad at a corner of its top, and the pad mirrored."""
    found = Modeller(("0", "0", "0"), ("20", "20", "20"))
    found.declare(1, "w", "3", "2", "6")
    found.declare(1, "h", "2", "1", "5")
    for text in (BLOCK, PAD, MIRROR):
        found.insert_feature(1, text)
    return found


def slotted():
    """A bar with a slot in its top, and kept names."""
    found = Modeller(("0", "0", "0"), ("10", "10", "10"))
    found.declare(1, "w", "8", "2", "9")
    found.declare(1, "s", "4", "0", "9")
    for text in (BAR, SLOT):
        found.insert_feature(1, text)
    for text in KEPT:
        found.keep(1, text)
    return found


def set_all(modeller, **values):
    for name, value in values.items():
        modeller.set_value(1, name, value)


def flat_planes(body):
    """The planes and origins of the flat places of a body: lists of texts like x=3/2 2.d+, + for a body above."""
    found = []
    for _, _, place, origin, below in body.flats():
        normal, offset = body.planes[place]
        found.append(f"{AXES[normal]}={told(offset)} {origin_text(origin)}{'-' if below else '+'}")
    return found


def digest(*answers):
    """What tells answers from all others, in their order."""
    return sha256(repr(answers).encode()).hexdigest()[:16]


def whole(modeller):
    """All that a modeller tells of its body, as a digest."""
    body = modeller.body()
    return digest(modeller.features(), body.planes, body.tools, body.cells, body.flats())
