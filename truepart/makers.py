"""Makers: by which tools, and by which of their sides, places come into a body or leave it."""

from truepart.areas import joined_parts


def halves_of(sides, signs):
    """For each side whether a place with these signs is in its half."""
    return [(signs[plane] > 0) == above for _, plane, above in sides]


def holds_in(test, halves):
    """Whether a test holds of a place that is in these halves."""
    kind = test[0]
    if kind == "side":
        return halves[test[1]]
    if kind == "not":
        return not holds_in(test[1], halves)
    found = [holds_in(part, halves) for part in joined_parts(test)]
    return all(found) if kind == "both" else any(found)


def turned_side(sides, test, halves, plane):
    """The origin of the side on a plane by which a place, in these halves, comes into a tool or leaves it, or None.

    The sides on the plane are turned one behind the other, in their order.
    """
    there = holds_in(test, halves)
    row = list(halves)
    for k, side in enumerate(sides):
        if side[1] == plane:
            row[k] = not row[k]
            if holds_in(test, row) != there:
                return side[0]
    return None
