"""Groups of things that hang together."""


def group_from(start, near):
    """The numbers that hang together with a number, in order; near tells for each number those linked to it."""
    found = {start: True}
    waiting = [start]
    while waiting:
        at = waiting.pop()
        for other in near[at]:
            if other not in found:
                found[other] = True
                waiting.append(other)
    return sorted(found)


def groups(many, links):
    """The numbers below a bound, grouped as far as pairs link them: lists in order, in the order of their firsts."""
    near = [[] for _ in range(many)]
    for a, b in links:
        near[a].append(b)
        near[b].append(a)
    taken = {}
    found = []
    for start in range(many):
        if start not in taken:
            group = group_from(start, near)
            found.append(group)
            for member in group:
                taken[member] = True
    return found
