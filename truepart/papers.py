"""Papers: what shows whether there is a point with certain signs at planes."""

from truepart.constraints import solve
from truepart.numbers import ZERO, fraction, negative, sign, times, total
from truepart.planes import sides


def turned_plane(wall, to):
    """A plane, turned if the sign of a point there is -1."""
    normal, offset = wall
    if to < 0:
        return tuple([-part for part in normal]), negative(offset)
    return normal, offset


def paper_for(walls, signs):
    """A paper ("point", point) or ("never", multipliers) for planes and signs."""
    rows = []
    for wall, to in zip(walls, signs):
        normal, offset = turned_plane(wall, to)
        rows.append(([fraction(part) for part in normal], offset, "equal" if to == 0 else "more"))
    kind, found = solve(rows, 3)
    if kind == "point":
        return "point", tuple(found)
    return "never", found


def there(walls, signs):
    """Whether there is a point that has these signs at planes."""
    return paper_for(walls, signs)[0] == "point"


def is_refuted(walls, signs, multipliers):
    """Whether multipliers show that no point has these signs at planes."""
    if len(multipliers) != len(walls):
        return False
    if any([sign(many) < 0 for many, to in zip(multipliers, signs) if to != 0]):
        return False
    rows = [turned_plane(wall, to) for wall, to in zip(walls, signs)]
    for axis in range(3):
        if total([times(many, fraction(normal[axis])) for many, (normal, _) in zip(multipliers, rows)]) != ZERO:
            return False
    whole = sign(total([times(many, offset) for many, (_, offset) in zip(multipliers, rows)]))
    if any([sign(many) > 0 for many, to in zip(multipliers, signs) if to != 0]):
        return whole >= 0
    return whole != 0


def judge(walls, signs, paper):
    """What a paper shows of planes and signs: "there", "never" or "nothing"."""
    kind, found = paper
    if kind == "point" and sides(walls, found) == tuple(signs):
        return "there"
    if kind == "never" and is_refuted(walls, signs, found):
        return "never"
    return "nothing"
