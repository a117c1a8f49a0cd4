"""What point 88 says of equations."""

import random
import unittest
from fractions import Fraction
from itertools import combinations

from truepart.equations import settle, worth_of


def row(coefficients, bound):
    return ([part if isinstance(part, tuple) else (part, 1) for part in coefficients],
            bound if isinstance(bound, tuple) else (bound, 1))


def rank(rows):
    """The rank of rows of Fractions."""
    rows = [list(given) for given in rows]
    found = 0
    for at in range(len(rows[0]) if rows else 0):
        lead = next((k for k in range(found, len(rows)) if rows[k][at] != 0), None)
        if lead is not None:
            rows[found], rows[lead] = rows[lead], rows[found]
            for k in range(found + 1, len(rows)):
                factor = rows[k][at] / rows[found][at]
                rows[k] = [a - factor * b for a, b in zip(rows[k], rows[found])]
            found += 1
    return found


def exact(rows):
    return [[Fraction(*part) for part in (*coefficients, bound)] for coefficients, bound in rows]


def can_be_met(rows):
    return rank(exact(rows)) == rank([given[:-1] for given in exact(rows)])


class Settle(unittest.TestCase):

    def assert_kept(self, rows, many, *worths):
        state, kept = settle(rows, many)
        self.assertEqual(state, "kept")
        found = [worth_of(kept, at) for at in range(many)]
        self.assertEqual(found, [part if part is None or isinstance(part, tuple) else (part, 1) for part in worths])

    def test_none(self):
        self.assert_kept([], 0)
        self.assert_kept([], 3, None, None, None)

    def test_one(self):
        self.assert_kept([row([2], 3)], 1, (3, 2))
        self.assert_kept([row([1, 1], 3)], 2, None, None)
        self.assert_kept([row([0, (1, 3)], 3)], 2, None, 9)

    def test_independent_ones(self):
        self.assert_kept([row([1, 1, 0], 3), row([1, -1, 0], 1)], 3, 2, 1, None)
        self.assert_kept([row([1, 1, 1], 6), row([0, 1, 1], 5), row([0, 0, 1], 3)], 3, 1, 2, 3)
        self.assert_kept([row([1, 1, 0], 3), row([0, 0, 2], 1)], 3, None, None, (1, 2))

    def test_what_is_determined_only_by_the_last_one(self):
        self.assert_kept([row([1, 1, 1], 6), row([1, 1, 0], 3)], 3, None, None, 3)

    def test_ones_that_follow(self):
        self.assert_kept([row([1, 1], 3), row([2, 2], 6), row([1, 0], 1), row([0, 3], 6), row([0, 0], 0)], 2, 1, 2)

    def test_a_contradiction(self):
        self.assertEqual(settle([row([1], 3), row([2], 5)], 1), ("conflict", [0, 1]))
        self.assertEqual(settle([row([1, 0], 3), row([0, 1], 5), row([1, 0], 4)], 2), ("conflict", [0, 2]))
        self.assertEqual(settle([row([1, 0], 3), row([0, 1], 5), row([1, 1], 4)], 2), ("conflict", [0, 1, 2]))

    def test_an_equation_that_contradicts_by_itself(self):
        self.assertEqual(settle([row([1, 0], 3), row([0, 0], 5)], 2), ("conflict", [1]))
        self.assertEqual(settle([row([], 0), row([], (1, 2))], 0), ("conflict", [1]))

    def test_only_the_first_contradiction_counts(self):
        self.assertEqual(settle([row([1], 3), row([1], 4), row([1], 5), row([0], 5)], 1), ("conflict", [0, 1]))

    def test_a_contradiction_never_comes_from_one_that_follows(self):
        rows = [row([1, 0], 1), row([0, 1], 2), row([1, 1], 3), row([2, 2], 7)]
        self.assertEqual(settle(rows, 2), ("conflict", [0, 1, 3]))
        self.assertEqual(settle([rows[2], rows[0], rows[1], rows[3]], 2), ("conflict", [0, 3]))

    def test_arguments_stay(self):
        rows = [row([1, 1], 3), row([1, 0], 1)]
        settle(rows, 2)
        self.assertEqual(rows, [row([1, 1], 3), row([1, 0], 1)])

    def test_random_equations(self):
        chance = random.Random(88)
        states = set()
        for _ in range(300):
            many = chance.randint(1, 4)
            rows = [row([chance.randint(-1, 1) for _ in range(many)], chance.randint(-1, 1)) for _ in range(chance.randint(0, 5))]
            state, found = settle(rows, many)
            states.add(state)
            if state == "kept":
                self.assertTrue(can_be_met(rows))
                self.check_worths(rows, many, found)
            else:
                self.check_conflict(rows, found)
        self.assertEqual(states, {"kept", "conflict"})

    def check_worths(self, rows, many, kept):
        """A variable is determined if and only if another value of it cannot be met."""
        for at in range(many):
            unit = [int(k == at) for k in range(many)]
            told = [worth for worth in range(-3, 4) if can_be_met(rows + [row(unit, worth)])]
            found = worth_of(kept, at)
            if found is None:
                self.assertGreater(len(told), 1)
            else:
                self.assertTrue(can_be_met(rows + [row(unit, found)]))
                self.assertLessEqual(len(told), 1)

    def check_conflict(self, rows, found):
        """The first equation that contradicts, and the only independent ones in front of it from which this comes."""
        last = next(k for k in range(len(rows)) if not can_be_met(rows[:k + 1]))
        self.assertEqual(found[-1], last)
        self.assertEqual(found, sorted(set(found)))
        self.assertFalse(can_be_met([rows[k] for k in found]))
        for gone in found:
            self.assertTrue(can_be_met([rows[k] for k in found if k != gone]))
        independent = []
        for k in range(last):
            if rank(exact(rows[:k + 1])) > rank(exact(rows[:k])):
                independent.append(k)
        wanted = [part for size in range(len(independent) + 1) for part in combinations(independent, size)
                  if not can_be_met([rows[k] for k in (*part, last)])]
        self.assertEqual(tuple(found[:-1]), wanted[0])


if __name__ == "__main__":
    unittest.main()
