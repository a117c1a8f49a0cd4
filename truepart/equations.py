"""Linear equations, taken in order: pairs of a list of coefficients and a bound."""

from truepart.linear import settle_rows, worth_told


def settle(rows, many):
    """("conflict", indexes) if equations in so many variables contradict one another, otherwise ("kept", rows)."""
    return settle_rows([[*coefficients, bound] for coefficients, bound in rows], many)


def worth_of(kept, at):
    """The value of the variable with an index by the rows that were kept, or None if it is not determined."""
    if not kept:
        return None
    # The bound stands behind the coefficients.
    found = worth_told(kept, at, len(kept[0][1]) - 1)
    return None if found is None else found[0]
