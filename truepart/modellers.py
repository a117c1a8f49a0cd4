"""Modellers: documents that several hands edit, and each can take back its own edits."""

from truepart.documents import Document
from truepart.edits import apply, replayed, without_last
from truepart.errors import Full, Unknown
from truepart.making import make
from truepart.names import itself, look
from truepart.nametexts import name_text, read_name
from truepart.numbers import read_fraction, told
from truepart.origins import origin_text

MOST_EDITS = 60


def read_point(texts):
    """The point that three texts of fractions tell."""
    return tuple([read_fraction(text) for text in texts])


def told_edit(edit, came):
    """An edit with its fractions as texts, and the number that came behind it if one did."""
    kind = edit[0]
    if kind in ("insert", "keep"):
        return (*edit, came)
    if kind in ("declare", "set"):
        texts = [told(part) for part in edit[2:]]
        return (kind, edit[1], *texts)
    if kind == "change":
        _, number, text, pairs = edit
        return (kind, number, text, [(side, list(sides)) for side, sides in pairs])
    return edit


class Modeller:
    """A document, and the edits that have made it."""

    def __init__(self, low, high):
        self.low = read_point(low)
        self.high = read_point(high)
        self.document = Document(self.low, self.high)
        self.rows = []
        self.last_edit = 0
        self.made = None

    def perform(self, hand, edit):
        """Makes an edit of a hand; returns the number that came, or None."""
        if len(self.rows) == MOST_EDITS:
            raise Full(f"{MOST_EDITS} edits stand")
        document, came = apply(self.document, edit)
        self.last_edit += 1
        self.rows.append((self.last_edit, hand, edit, came))
        self.document = document
        self.made = None
        return came

    def declare(self, hand, name, value, low, high):
        """Declares a parameter, behind the others."""
        self.perform(hand, ("declare", name, read_fraction(value), read_fraction(low), read_fraction(high)))

    def set_value(self, hand, name, value):
        """Sets the value of a parameter."""
        self.perform(hand, ("set", name, read_fraction(value)))

    def insert_feature(self, hand, text, *, place=None):
        """Inserts a feature; returns its number."""
        return self.perform(hand, ("insert", text, place))

    def change(self, hand, number, text, *, becomes=()):
        """Changes the text of a feature; pairs (side, sides) tell what its sides become."""
        pairs = tuple([(side, tuple(sides)) for side, sides in becomes])
        self.perform(hand, ("change", number, text, pairs))

    def remove_feature(self, hand, number):
        """Removes a feature."""
        self.perform(hand, ("remove", number))

    def move(self, hand, number, place):
        """Moves a feature so that so many others are in front of it."""
        self.perform(hand, ("move", number, place))

    def suppress(self, hand, number, on):
        """Suppresses a feature, or no longer."""
        self.perform(hand, ("suppress", number, on))

    def keep(self, hand, text):
        """Keeps a name; returns its number."""
        return self.perform(hand, ("keep", text))

    def undo(self, hand):
        """Takes back the last edit of a hand: ("undone", number), ("refused", number), or None if there is none."""
        found = without_last(self.rows, hand)
        if found is None:
            return None
        rows, number = found
        document, refused = replayed(self.low, self.high, rows)
        if document is None:
            return ("refused", refused)
        # What was taken back has had its number, too.
        document.last_feature = self.document.last_feature
        document.last_name = self.document.last_name
        self.document = document
        self.rows = rows
        self.made = None
        return ("undone", number)

    def parameters(self):
        """The list of the parameters: tuples (name, value, low, high), fractions being told as texts."""
        found = []
        for name, value, low, high in self.document.parameters:
            found.append((name, told(value), told(low), told(high)))
        return found

    def edits(self):
        """The list of the edits that stand: tuples (number, hand, edit)."""
        return [(number, hand, told_edit(edit, came)) for number, hand, edit, came in self.rows]

    def present(self):
        """The body at the present values, and the list of (number, state, why) of the features."""
        # Kept until the next edit, since it is asked for often.
        if self.made is None:
            self.made = make(self.document, self.document.setting())
        return self.made

    def features(self):
        """The list of the features: tuples (number, text, state, why)."""
        _, states = self.present()
        rows = self.document.features
        return [(number, row["text"], state, why) for row, (number, state, why) in zip(rows, states)]

    def kept_names(self):
        """The list of the kept names: tuples (number, text, for each place the list of the texts of origins)."""
        found = []
        for row in self.document.kept:
            meant = [[origin_text(origin) for origin in origins] for origins in row["means"]]
            found.append((row["number"], name_text(row["name"]), meant))
        return found

    def body(self):
        """The body at the present values."""
        return self.present()[0]

    def look_up(self, name):
        """Where a name goes in the body: the name of a text, or the kept one with a number."""
        if not isinstance(name, int):
            found = read_name(name)
            return look(self.body(), found, itself(found))
        for row in self.document.kept:
            if row["number"] == name:
                return look(self.body(), row["name"], row["means"])
        raise Unknown(f"no name {name} is kept")
