"""Linear equations, taken in order: rows of fractions, first what the unknowns are multiplied by, then the sum."""

from truepart.numbers import ONE, ZERO, minus, over, times


def cleared(row, at, base):
    """A row, with so much of a base row, which has 1 at an index, that it has 0 there."""
    factor = row[at]
    if factor == ZERO:
        return row
    return [minus(part, times(factor, other)) for part, other in zip(row, base)]


def marked(row, at, many):
    """A row with so many marks behind it that tell of how much of each row it is made: all of the one with an index."""
    return list(row) + [ONE if k == at else ZERO for k in range(many)]


def lead_of(row, many):
    """The index of the first of so many unknowns that is in a row, or None."""
    for at in range(many):
        if row[at] != ZERO:
            return at
    return None


def settle_rows(rows, many):
    """Takes rows with so many unknowns one behind the other.

    Returns ("conflict", indexes) of the first row that contradicts those in front of it and of those from which this
    comes, or ("kept", pairs of the index of an unknown and the row that tells of it). A row that follows from those in
    front of it is passed over.
    """
    kept = []
    for place, given in enumerate(rows):
        row = marked(given, place, len(rows))
        for lead, base in kept:
            row = cleared(row, lead, base)
        at = lead_of(row, many)
        if at is not None:
            first = row[at]
            row = [over(part, first) for part in row]
            kept = [(lead, cleared(base, at, row)) for lead, base in kept] + [(at, row)]
        elif any([part != ZERO for part in row[many:len(given)]]):
            marks = row[len(given):]
            return ("conflict", [k for k, mark in enumerate(marks) if mark != ZERO])
    return ("kept", [(lead, row[:len(row) - len(rows)]) for lead, row in kept])


def worth_told(kept, at, many):
    """What the unknown with an index comes to by the rows that were kept, or None if it is not determined."""
    for lead, row in kept:
        if lead == at and all([part == ZERO for k, part in enumerate(row[:many]) if k != at]):
            return row[many:]
    return None
