"""Points 33, 34 and 35: constraints."""

import random
import unittest
from fractions import Fraction

from truepart.constraints import meets, solve


def row(coefficients, kind, bound):
    return ([part if isinstance(part, tuple) else (part, 1) for part in coefficients],
            bound if isinstance(bound, tuple) else (bound, 1), kind)


def fractions(*parts):
    return [part if isinstance(part, tuple) else (part, 1) for part in parts]


class ConstraintCase(unittest.TestCase):

    def assert_point(self, rows, many, *values):
        self.assertEqual(solve(rows, many), ("point", fractions(*values)))
        for given in rows:
            self.assertTrue(meets(given, fractions(*values)))

    def assert_never(self, rows, many, *multipliers):
        self.assertEqual(solve(rows, many), ("never", fractions(*multipliers)))
        self.assert_proof(rows, many, fractions(*multipliers))

    def assert_proof(self, rows, many, multipliers):
        """Checks against the constraints that are handed in that they cannot all hold."""
        self.assertEqual(len(multipliers), len(rows))
        parts = [Fraction(*part) for part in multipliers]
        for at in range(many):
            self.assertEqual(sum(part * Fraction(*given[0][at]) for part, given in zip(parts, rows)), 0)
        for part, given in zip(parts, rows):
            self.assertTrue(part >= 0 or given[2] == "equal")
        bound = sum(part * Fraction(*given[1]) for part, given in zip(parts, rows))
        used = [given[2] for part, given in zip(parts, rows) if part != 0]
        if "more" in used:
            self.assertGreaterEqual(bound, 0)
        elif "least" in used:
            self.assertGreater(bound, 0)
        else:
            self.assertNotEqual(bound, 0)


class Holding(unittest.TestCase):

    def test_each_kind(self):
        for kind, found in [("more", (False, False, True)), ("least", (False, True, True)), ("equal", (False, True, False))]:
            for x, holds in zip(((5, 6), (1, 1), (7, 6)), found):
                self.assertIs(meets(row([2, -1], kind, (3, 2)), [x, (1, 2)]), holds, (kind, x))

    def test_without_variables(self):
        for kind, found in [("more", (True, False, False)), ("least", (True, True, False)), ("equal", (False, True, False))]:
            for bound, holds in zip((-1, 0, 1), found):
                self.assertIs(meets(row([], kind, bound), []), holds)


class Points(ConstraintCase):

    def test_no_constraints(self):
        self.assert_point([], 0)
        self.assert_point([], 3, 0, 0, 0)

    def test_no_variables(self):
        self.assert_point([row([], "more", -1), row([], "least", 0), row([], "equal", 0)], 0)
        self.assert_never([row([], "least", 0), row([], "more", 0), row([], "equal", 5)], 0, 0, 1, 0)

    def test_limits_on_one_side(self):
        self.assert_point([row([1], "more", 2)], 1, 3)
        self.assert_point([row([2], "least", 3), row([1], "more", (1, 2))], 1, (5, 2))
        self.assert_point([row([-1], "more", 2)], 1, -3)
        self.assert_point([row([-2], "least", 3), row([-1], "more", (1, 2))], 1, (-5, 2))

    def test_limits_on_both_sides(self):
        self.assert_point([row([1], "more", 2), row([-1], "more", -5), row([3], "least", 9), row([-2], "least", -9)], 1, (15, 4))
        self.assert_point([row([1], "least", 2), row([-1], "least", -2)], 1, 2)

    def test_a_variable_without_limits(self):
        self.assert_point([row([0, 1, 0], "more", 4)], 3, 0, 5, 0)

    def test_equations_alone(self):
        self.assert_point([row([2], "equal", 3)], 1, (3, 2))
        self.assert_point([row([1, 1], "equal", 5), row([1, -1], "equal", 1)], 2, 3, 2)
        self.assert_point([row([1, 1, 1], "equal", 6)], 3, 0, 0, 6)
        self.assert_point([row([1, 2], "equal", 3), row([2, 4], "equal", 6)], 2, 0, (3, 2))

    def test_both(self):
        self.assert_point([row([1, 1], "equal", 10), row([1, 0], "more", 2), row([0, 1], "least", 4)], 2, 4, 6)
        self.assert_point([row([0, 1], "more", 7), row([1, 1], "equal", 10)], 2, 2, 8)

    def test_inequalities_alone(self):
        self.assert_point([row([1, 1], "more", 2), row([1, -1], "more", 0), row([-1, 0], "least", -4)], 2, (5, 2), 1)
        self.assert_point([row([0, 1], "more", 0), row([1, -1], "least", 0)], 2, 1, (1, 2))

    def test_the_first_equation_is_used(self):
        self.assert_point([row([1, 0], "more", 3), row([1, 0], "equal", 4), row([0, 2], "equal", 8)], 2, 4, 4)

    def test_what_is_handed_in_does_not_change(self):
        rows = [row([1, 1], "more", 2), row([1, -1], "equal", 0)]
        found = solve(rows, 2)
        found[1].clear()
        self.assertEqual(rows, [row([1, 1], "more", 2), row([1, -1], "equal", 0)])


class Never(ConstraintCase):

    def test_one_that_cannot_hold(self):
        self.assert_never([row([1], "more", 0), row([0], "more", 0)], 1, 0, 1)
        self.assert_never([row([1], "more", 0), row([0], "equal", 3)], 1, 0, 1)

    def test_limits_that_leave_nothing(self):
        self.assert_never([row([1], "more", 2), row([-1], "least", -2)], 1, 1, 1)
        self.assert_never([row([2], "least", 6), row([-3], "least", -6)], 1, (1, 2), (1, 3))

    def test_equations_that_contradict(self):
        self.assert_never([row([1, 1], "equal", 1), row([2, 2], "equal", 3)], 2, -2, 1)
        self.assert_never([row([1, 0], "equal", 1), row([0, 1], "equal", 1), row([1, 1], "equal", 3)], 2, -1, -1, 1)

    def test_an_equation_and_a_limit(self):
        self.assert_never([row([1, 1], "equal", 4), row([0, 1], "more", 3), row([2, 0], "least", 2)], 2, -1, 1, (1, 2))

    def test_the_first_that_does_not_hold(self):
        self.assert_never([row([1], "more", 2), row([1], "more", 5), row([-1], "more", 0), row([-1], "more", 3)], 1, 1, 0, 1, 0)
        self.assert_never([row([1], "more", -1), row([1], "more", 5), row([-1], "more", 0), row([-1], "more", 3)], 1, 1, 0, 0, 1)
        self.assert_never([row([1], "more", 2), row([-1], "more", 0), row([0], "more", 7)], 1, 0, 0, 1)
        self.assert_never([row([1, 0], "more", 2), row([-1, 0], "more", 0), row([1, 1], "more", 0), row([0, -1], "more", 0),
                           row([-1, 0], "more", 5)], 2, 1, 1, 0, 0, 0)

    def test_three_variables(self):
        rows = [row([1, 0, 0], "more", 0), row([0, 1, 0], "more", 0), row([0, 0, 1], "more", 0)]
        self.assert_never(rows + [row([-1, -2, -3], "least", 0)], 3, 1, 2, 3, 1)
        self.assert_never([row([-1, 0, 0], "least", -1)] + rows + [row([-1, -2, -3], "least", 0)], 3, 0, 1, 2, 3, 1)
        self.assert_point(rows + [row([-1, -2, -3], "least", -6)], 3, 3, (3, 4), (1, 4))


class Elimination(ConstraintCase):

    def slow(self, rows, many):
        """What the document says, word by word."""
        known = []
        for place, (coefficients, bound, kind) in enumerate(rows):
            shares = [Fraction(k == place) for k in range(len(rows))]
            known.append(([Fraction(*part) for part in coefficients] + [Fraction(*bound)] + shares, kind))
        stages = []
        for at in reversed(range(many)):
            stages.append(known)
            known = self.without(known, at)
        for parts, kind in known:
            if not {"more": parts[many] < 0, "least": parts[many] <= 0, "equal": parts[many] == 0}[kind]:
                return ("never", [(part.numerator, part.denominator) for part in parts[many + 1:]])
        values = []
        for at, stage in enumerate(reversed(stages)):
            values.append(self.worth(stage, at, many, values))
        return ("point", [(part.numerator, part.denominator) for part in values])

    def without(self, rows, at):
        for base, kind in rows:
            if kind == "equal" and base[at] != 0:
                return [([x - parts[at] / base[at] * y for x, y in zip(parts, base)], k) for parts, k in rows]
        found = [(parts, kind) for parts, kind in rows if parts[at] == 0]
        for more, kind in rows:
            for fewer, other in rows:
                if more[at] > 0 > fewer[at]:
                    parts = [x / more[at] - y / fewer[at] for x, y in zip(more, fewer)]
                    found.append((parts, "more" if "more" in (kind, other) else "least"))
        return found

    def worth(self, rows, at, many, values):
        def limit(parts):
            return (parts[many] - sum(x * y for x, y in zip(parts, values))) / parts[at]

        for parts, kind in rows:
            if kind == "equal" and parts[at] != 0:
                return limit(parts)
        low = [limit(parts) for parts, _ in rows if parts[at] > 0]
        high = [limit(parts) for parts, _ in rows if parts[at] < 0]
        if low and high:
            return (max(low) + min(high)) / 2
        return max(low) + 1 if low else min(high) - 1 if high else Fraction(0)

    def test_against_the_words_of_the_document(self):
        chance = random.Random(11)
        states = []
        for _ in range(1500):
            many = chance.randint(0, 3)
            rows = []
            for _ in range(chance.randint(0, 6)):
                coefficients = [(chance.randint(-4, 4), 1) for _ in range(many)]
                kind = chance.choice(("more", "least", "more", "least", "equal"))
                rows.append((coefficients, (chance.randint(-3, 3), 1), kind))
            found = solve(rows, many)
            self.assertEqual(found, self.slow(rows, many), rows)
            states.append(found[0])
            if found[0] == "point":
                self.assertTrue(all(meets(given, found[1]) for given in rows))
            else:
                self.assert_proof(rows, many, found[1])
        self.assertGreater(states.count("point"), 300)
        self.assertGreater(states.count("never"), 300)


if __name__ == "__main__":
    unittest.main()
