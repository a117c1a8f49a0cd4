"""Constraints: sums of multiples of variables that are greater than a bound, at least a bound, or equal to it."""

from truepart.numbers import ONE, ZERO, less, middle, minus, negative, over, plus, sign, times, total, without_sign


def left_side(coefficients, point):
    """The sum of the variables, each multiplied by its coefficient, at a point."""
    return total([times(a, b) for a, b in zip(coefficients, point)])


def meets(row, point):
    """Whether a constraint holds at a point."""
    coefficients, bound, kind = row
    ahead = sign(minus(left_side(coefficients, point), bound))
    if kind == "equal":
        return ahead == 0
    return ahead > 0 or (ahead == 0 and kind == "least")


def mixed(a, first, b, second, kind):
    """The sum of two constraints, each multiplied by a fraction."""
    # A constraint here has as its fourth part the multipliers of the given ones from which it comes.
    shares = {place: times(a, first[3][place]) for place in first[3]}
    for place in second[3]:
        shares[place] = plus(shares.get(place, ZERO), times(b, second[3][place]))
    coefficients = [plus(times(a, x), times(b, y)) for x, y in zip(first[0], second[0])]
    return (coefficients, plus(times(a, first[1]), times(b, second[1])), kind, shares)


def without_variable(row, equation, at):
    """A constraint, with so much of an equation that the variable with this index has the coefficient 0."""
    factor = negative(over(row[0][at], equation[0][at]))
    return mixed(ONE, row, factor, equation, row[2])


def summed(more, fewer, at):
    """The sum of two constraints in which the coefficients of a variable are above 0 and below 0."""
    kind = "more" if "more" in (more[2], fewer[2]) else "least"
    return mixed(over(ONE, more[0][at]), more, negative(over(ONE, fewer[0][at])), fewer, kind)


def with_sign(rows, at, found):
    """The constraints in which the coefficient of a variable has this sign."""
    return [row for row in rows if sign(row[0][at]) == found]


def equation_for(rows, at):
    """The first equation in which a variable has a coefficient other than 0, or None."""
    for row in rows:
        if row[2] == "equal" and row[0][at] != ZERO:
            return row
    return None


def eliminated(rows, at):
    """What constraints say without the variable with this index."""
    equation = equation_for(rows, at)
    if equation is not None:
        return [without_variable(row, equation, at) for row in rows]
    found = with_sign(rows, at, 0)
    below = with_sign(rows, at, -1)
    for more in with_sign(rows, at, 1):
        for fewer in below:
            found.append(summed(more, fewer, at))
    return found


def unscaled(row):
    """The coefficients and the bound of a constraint, over the size of its first coefficient other than 0."""
    coefficients, bound = row[:2]
    sizes = [without_sign(part) for part in coefficients if part != ZERO]
    if not sizes:
        return tuple(coefficients), bound
    return tuple([over(part, sizes[0]) for part in coefficients]), over(bound, sizes[0])


def needed(rows):
    """The constraints without those that say no more than one in front of them with the same left side."""
    # They multiply at each step. What is left out gives no closer limit, and all that would come from it comes, at
    # least as strong and earlier, from the one in front: so the first constraint that does not hold stays the first.
    strongest = {}
    found = []
    for row in rows:
        if row[2] == "equal":
            found.append(row)
        else:
            left, bound = unscaled(row)
            strength = (bound, row[2] == "more")
            if left not in strongest or is_weaker(strongest[left], strength):
                strongest[left] = strength
                found.append(row)
    return found


def is_weaker(a, b):
    """Whether the first pair of a bound and whether it is barred says less than the second one."""
    if a[0] == b[0]:
        return b[1] and not a[1]
    return less(a[0], b[0])


def limit(row, values):
    """The value of the variable behind those that have values at which a constraint holds with equality."""
    at = len(values)
    return over(minus(row[1], left_side(row[0][:at], values)), row[0][at])


def greatest(limits):
    """The greatest fraction of a list, or None of an empty one."""
    found = None
    for part in limits:
        if found is None or less(found, part):
            found = part
    return found


def next_value(rows, values):
    """The value of the variable behind those that have values, out of constraints up to this variable."""
    at = len(values)
    equation = equation_for(rows, at)
    if equation is not None:
        return limit(equation, values)
    low = greatest([limit(row, values) for row in with_sign(rows, at, 1)])
    high = greatest([negative(limit(row, values)) for row in with_sign(rows, at, -1)])
    if low is None and high is None:
        return ZERO
    if high is None:
        return plus(low, ONE)
    if low is None:
        return minus(negative(high), ONE)
    return middle(low, negative(high))


def solve(rows, many):
    """("point", values), with which all constraints in so many variables hold, or ("never", multipliers)."""
    known = needed([(*row, {place: ONE}) for place, row in enumerate(rows)])
    stages = []
    for at in reversed(range(many)):
        stages.append(known)
        known = needed(eliminated(known, at))
    for row in known:
        if not meets(row[:3], [ZERO] * many):
            return ("never", [row[3].get(place, ZERO) for place in range(len(rows))])
    values = []
    for stage in reversed(stages):
        values.append(next_value(stage, values))
    return ("point", values)
