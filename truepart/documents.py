"""Documents: parameters, features in an order, and kept names."""

from truepart.errors import Unknown


def copied_means(means):
    """What the places of a name mean, in new lists."""
    return [list(origins) for origins in means]


def copied_feature(feature):
    """A feature as a new dict with new lists."""
    return {word: list(part) if isinstance(part, list) else part for word, part in feature.items()}


def copied_row(row):
    """A feature of a document as a new dict."""
    found = dict(row)
    found["feature"] = copied_feature(row["feature"])
    found["means"] = [copied_means(means) for means in row["means"]]
    return found


def copied_kept(row):
    """A kept name of a document as a new dict."""
    found = dict(row)
    found["means"] = copied_means(row["means"])
    return found


class Document:
    """What the edits that stand have made, within a room."""

    def __init__(self, low, high):
        self.low = low
        self.high = high
        self.parameters = []
        self.features = []
        self.kept = []
        self.last_feature = 0
        self.last_name = 0

    def names(self):
        """The names of the parameters."""
        return [row[0] for row in self.parameters]

    def setting(self):
        """The values of the parameters."""
        return [row[1] for row in self.parameters]

    def place(self, number):
        """The index of the feature with a number."""
        for k, row in enumerate(self.features):
            if row["number"] == number:
                return k
        raise Unknown(f"there is no feature {number}")

    def copied(self):
        """Another document that is the same."""
        found = Document(self.low, self.high)
        found.parameters = [list(row) for row in self.parameters]
        found.features = [copied_row(row) for row in self.features]
        found.kept = [copied_kept(row) for row in self.kept]
        found.last_feature = self.last_feature
        found.last_name = self.last_name
        return found
