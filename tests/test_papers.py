"""Points 90, 91 and 92: papers."""

import random
import unittest
from itertools import product

from solids import at
from truepart.constraints import solve
from truepart.planes import canonical, plane, sides
from truepart.papers import judge, paper_for, there
from truepart.cells import arrange, walls

X, Y, Z = (1, 0, 0), (0, 1, 0), (0, 0, 1)


def planes(*rows):
    return [(normal, offset if isinstance(offset, tuple) else (offset, 1)) for normal, offset in rows]


def fractions(*parts):
    return [part if isinstance(part, tuple) else (part, 1) for part in parts]


class PaperFor(unittest.TestCase):

    def assert_point(self, rows, signs, *point):
        self.assertEqual(paper_for(rows, signs), ("point", at(*point)))
        self.assertEqual(judge(rows, signs, ("point", at(*point))), "there")
        self.assertIs(there(rows, signs), True)

    def assert_never(self, rows, signs, *multipliers):
        self.assertEqual(paper_for(rows, signs), ("never", fractions(*multipliers)))
        self.assertEqual(judge(rows, signs, ("never", fractions(*multipliers))), "never")
        self.assertIs(there(rows, signs), False)

    def test_no_planes(self):
        self.assert_point([], [], 0, 0, 0)

    def test_one_plane(self):
        for sign, x in [(-1, (3, 2)), (0, (5, 2)), (1, (7, 2))]:
            self.assert_point(planes((X, (5, 2))), [sign], x, 0, 0)

    def test_between_planes(self):
        self.assert_point(planes((X, 1), (X, 4), (Y, 2), (Z, 3)), [1, -1, 0, -1], (5, 2), 2, 2)

    def test_planes_that_are_parallel(self):
        self.assert_never(planes((X, 4), (X, 1)), [1, -1], 1, 1)
        self.assert_never(planes((X, 4), (X, 1)), [0, 0], -1, 1)
        self.assert_never(planes((X, 1), (X, 4)), [0, 1], -1, 1)
        self.assert_never(planes((X, 4), (X, 1)), [0, -1], 1, 1)

    def test_planes_that_are_the_same(self):
        self.assert_never(planes((X, 4), (X, 4)), [1, -1], 1, 1)
        self.assert_point(planes((X, 4), (X, 4)), [1, 1], 5, 0, 0)
        self.assert_point(planes((X, 4), (X, 4)), [0, 0], 4, 0, 0)
        for sign in (-1, 1):
            self.assertFalse(there(planes((X, 4), (X, 4)), [0, sign]))

    def test_normals_that_are_not_canonical(self):
        self.assert_point(planes(((-2, 0, 0), 4)), [1], -3, 0, 0)
        self.assert_point(planes(((0, 0, -3), 4)), [0], 0, 0, (-4, 3))
        self.assert_never(planes(((-2, 0, 0), 4), ((3, 0, 0), 6)), [1, 1], (1, 2), (1, 3))
        self.assert_never(planes(((4, 0, 0), 4), ((-6, 0, 0), -6)), [0, 1], (3, 2), 1)

    def test_it_solves_the_constraints_that_the_planes_are(self):
        chance = random.Random(92)
        for _ in range(60):
            rows = random_planes(chance)
            signs = [chance.choice((-1, 0, 1)) for _ in rows]
            told = []
            for (normal, offset), sign in zip(rows, signs):
                turn = -1 if sign == -1 else 1
                told.append((fractions(*[turn * part for part in normal]), (turn * offset[0], offset[1]),
                             "equal" if sign == 0 else "more"))
            kind, found = solve(told, 3)
            self.assertEqual(paper_for(rows, signs), (kind, tuple(found) if kind == "point" else found))

    def test_a_paper_for_all_signs(self):
        chance = random.Random(91)
        low, high = at(-9, -9, -9), at(9, 9, 9)
        for _ in range(8):
            rows = list(dict.fromkeys(plane(*row) for row in random_planes(chance)))[:4]
            rows = [row for row in rows if row not in walls(low, high)]
            # All planes meet inside the room if at all, and all cells come into it.
            cells = {signs[:len(rows)] for signs, _ in arrange(rows + walls(low, high), low, high)}
            for signs in product((-1, 0, 1), repeat=len(rows)):
                paper = paper_for(rows, list(signs))
                shown = judge(rows, list(signs), paper)
                self.assertIn(shown, ("there", "never"))
                self.assertEqual(shown == "there", paper[0] == "point")
                self.assertIs(there(rows, list(signs)), shown == "there")
                self.assertEqual(shown == "there", signs in cells, (rows, signs))

    def test_arguments_stay(self):
        rows, signs = planes((X, 4), (X, 1)), [1, -1]
        kind, found = paper_for(rows, signs)
        self.assertEqual((rows, signs), (planes((X, 4), (X, 1)), [1, -1]))
        found.append(None)
        self.assertEqual(len(paper_for(rows, signs)[1]), 2)


def random_planes(chance):
    rows = []
    for _ in range(chance.randint(1, 6)):
        normal = chance.choice([X, Y, Z, (1, 1, 0), (2, 0, -2), (-1, 0, 0), (1, 2, 3), (0, -3, 3)])
        rows.append((normal, (chance.randint(-1, 1), 1)))
    return rows


class Judge(unittest.TestCase):

    def test_points(self):
        rows = planes((X, 1), ((0, -2, 0), -4), (Z, 3))
        for signs, point, shown in [([1, 0, -1], at(2, 2, 0), "there"), ([1, 0, -1], at(1, 2, 0), "nothing"),
                                    ([1, 1, -1], at(2, 3, 0), "nothing"), ([1, -1, -1], at(2, 3, 0), "there"),
                                    ([0, 0, 0], at(1, 2, 3), "there"), ([-1, -1, -1], at(1, 2, 3), "nothing")]:
            self.assertEqual(judge(rows, signs, ("point", point)), shown)

    def test_multipliers(self):
        rows = planes((X, 4), (X, 1))
        for signs, told, shown in [
                ([1, -1], (1, 1), "never"), ([1, -1], ((1, 2), (1, 2)), "never"), ([1, -1], (0, 0), "nothing"),
                ([1, -1], (-1, -1), "nothing"), ([1, -1], (1, 2), "nothing"), ([-1, 1], (1, 1), "nothing"),
                ([0, 0], (1, -1), "never"), ([0, 0], (-1, 1), "never"), ([0, 0], (0, 0), "nothing"),
                ([0, -1], (1, 1), "never"), ([0, -1], (-1, -1), "nothing"), ([0, 1], (1, -1), "nothing"),
                ([0, 1], (-1, 1), "nothing"), ([1, 0], (1, -1), "never"), ([1, 0], (-1, 1), "nothing")]:
            self.assertEqual(judge(rows, signs, ("never", fractions(*told))), shown, (signs, told))

    def test_a_sum_of_nought(self):
        # No point is above and below the same plane; but one is on both of two that are the same.
        rows = planes((X, 4), (X, 4))
        self.assertEqual(judge(rows, [1, -1], ("never", fractions(1, 1))), "never")
        self.assertEqual(judge(rows, [1, 0], ("never", fractions(1, -1))), "never")
        self.assertEqual(judge(rows, [0, 0], ("never", fractions(1, -1))), "nothing")
        # A multiplier of 0 does not count as one above 0.
        self.assertEqual(judge(rows + planes((Y, 0)), [0, 0, 1], ("never", fractions(1, -1, 0))), "nothing")

    def test_a_sum_below_nought(self):
        rows = planes((X, 4), (X, 1), (Y, 0))
        self.assertEqual(judge(rows, [0, 0, 1], ("never", fractions(-1, 1, 0))), "never")
        self.assertEqual(judge(rows, [0, 1, 1], ("never", fractions(-1, 1, 0))), "nothing")

    def test_normals_that_are_not_canonical(self):
        rows = planes(((-2, 0, 0), 4), ((3, 0, 0), 6))
        self.assertEqual(judge(rows, [1, 1], ("never", fractions(3, 2))), "never")
        self.assertEqual(judge(rows, [1, 1], ("never", fractions(1, 1))), "nothing")
        self.assertEqual(judge(rows, [-1, 1], ("never", fractions(3, -2))), "nothing")

    def test_three_planes_and_more(self):
        # Above x = 0 and y = 0, and below x + y = 0; the fourth plane has nothing to do with it.
        rows = planes((X, 0), (Y, 0), ((1, 1, 0), 0), (Z, 0))
        for signs, told, shown in [([1, 1, -1, 1], (1, 1, 1, 0), "never"), ([1, 1, 0, 1], (1, 1, -1, 0), "never"),
                                   ([1, 1, -1, 1], (1, 1, 1, 1), "nothing"), ([0, 0, 0, 0], (1, 1, -1, 0), "nothing"),
                                   ([0, 0, -1, 0], (1, 1, 1, 0), "never"), ([0, 0, 1, 0], (-1, -1, 1, 0), "never")]:
            self.assertEqual(judge(rows, signs, ("never", fractions(*told))), shown, (signs, told))

    def test_as_many_multipliers_as_planes(self):
        rows = planes((X, 4), (X, 1))
        for told in [(1,), (1, 1, 0), (1, 1, 1), ()]:
            self.assertEqual(judge(rows, [1, -1], ("never", fractions(*told))), "nothing")
        self.assertEqual(judge([], [], ("never", [])), "nothing")
        self.assertEqual(judge([], [], ("never", fractions(1))), "nothing")
        self.assertEqual(judge([], [], ("point", at(1, 2, 3))), "there")

    def test_what_is_shown_is_so(self):
        chance = random.Random(90)
        seen = set()
        for _ in range(4000):
            rows = random_planes(chance)[:3]
            signs = [chance.choice((-1, 0, 1)) for _ in rows]
            if chance.random() < 0.5:
                paper = ("point", at(*[chance.randint(-2, 2) for _ in range(3)]))
                wanted = all(a == b for a, b in zip(sides([plane(*row) for row in rows], paper[1]), canonical_signs(rows, signs)))
                shown = "there" if wanted else "nothing"
                self.assertEqual(judge(rows, signs, paper), shown)
            else:
                paper = ("never", fractions(*[chance.randint(-2, 2) for _ in rows]))
                shown = judge(rows, signs, paper)
                self.assertIn(shown, ("never", "nothing"))
                if shown == "never":
                    self.assertFalse(there(rows, signs))
            seen.add(shown)
        self.assertEqual(seen, {"there", "never", "nothing"})


def canonical_signs(rows, signs):
    """The signs at the canonical planes with the same points."""
    return [sign if normal > (0, 0, 0) and canonical(normal)[0] * normal[0] >= 0 else -sign
            for (normal, _), sign in zip(rows, signs)]


if __name__ == "__main__":
    unittest.main()
