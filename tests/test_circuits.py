"""Points 31 and 32: circuits."""

import random
import unittest
from itertools import combinations
from math import gcd

from truepart.circuits import circuits, form, vanishes
from truepart.numbers import fraction
from truepart.planes import along, canonical, independent

X, Y, Z = (1, 0, 0), (0, 1, 0), (0, 0, 1)


class Circuits(unittest.TestCase):

    def test_two_planes(self):
        self.assertEqual(circuits([X, X]), [((0, 1), (1, -1))])
        self.assertEqual(circuits([X, Y]), [])
        self.assertEqual(circuits([(1, 2, 3), (1, 2, 3)]), [((0, 1), (1, -1))])

    def test_three_planes(self):
        self.assertEqual(circuits([X, Y, (1, 1, 0)]), [((0, 1, 2), (1, 1, -1))])
        self.assertEqual(circuits([(1, 1, 0), X, Y]), [((0, 1, 2), (1, -1, -1))])
        self.assertEqual(circuits([(2, 4, 1), (0, 2, 1), (1, 1, 0)]), [((0, 1, 2), (1, -1, -2))])
        self.assertEqual(circuits([X, Y, Z]), [])

    def test_four_planes(self):
        self.assertEqual(circuits([X, Y, Z, (1, 1, 1)]), [((0, 1, 2, 3), (1, 1, 1, -1))])
        self.assertEqual(circuits([(1, 2, 3), X, Y, Z]), [((0, 1, 2, 3), (1, -1, -2, -3))])
        self.assertEqual(circuits([(2, 1, 0), (0, 2, 1), (1, 0, 2), (1, 1, 1)]), [((0, 1, 2, 3), (1, 1, 1, -3))])
        self.assertEqual(circuits([X, Y, Z, (1, 1, 0)]), [((0, 1, 3), (1, 1, -1))])

    def test_no_planes(self):
        self.assertEqual(circuits([]), [])
        self.assertEqual(circuits([X]), [])

    def test_planes_given_twice_are_two_planes(self):
        self.assertEqual(circuits([X, Y, X, (1, 1, 0)]), [
            ((0, 1, 3), (1, 1, -1)), ((0, 2), (1, -1)), ((1, 2, 3), (1, 1, -1))])
        self.assertEqual(circuits([X, X, X]), [((0, 1), (1, -1)), ((0, 2), (1, -1)), ((1, 2), (1, -1))])

    def test_order_of_the_places(self):
        normals = [(1, 0, 0), (0, 0, 1), (1, 0, 1), (1, 0, -1), (0, 1, 0), (0, 0, 1), (1, 1, 1)]
        places = [found[0] for found in circuits(normals)]
        self.assertEqual(places, sorted(places))
        self.assertLess(places.index((0, 1, 4, 6)), places.index((0, 2, 3)))
        self.assertLess(places.index((0, 2, 3)), places.index((1, 5)))
        self.assertLess(places.index((0, 2, 5)), places.index((1, 2, 3)))

    def test_multipliers(self):
        chance = random.Random(3)
        for _ in range(30):
            normals = []
            while len(normals) < 6:
                direction = tuple(chance.randint(-3, 3) for _ in range(3))
                if any(direction):
                    normals.append(canonical(direction))
            found = circuits(normals)
            for places, multipliers in found:
                self.assertIsInstance(places, tuple)
                self.assertIsInstance(multipliers, tuple)
                self.assertEqual(len(places), len(multipliers))
                self.assertNotIn(0, multipliers)
                self.assertGreater(multipliers[0], 0)
                self.assertEqual(gcd(*multipliers), 1)
                self.assertTrue(vanishes((places, multipliers), normals))
            self.assertEqual([places for places, _ in found], sorted(self.dependent(normals)))

    def dependent(self, normals):
        """The least sets of planes whose normals, multiplied, can have the sum (0, 0, 0)."""
        found = []
        for many in (2, 3, 4):
            for places in combinations(range(len(normals)), many):
                whole = independent([normals[k] for k in places]) == many
                parts = any(set(other) < set(places) for other in found)
                if not whole and not parts:
                    found.append(places)
        return found

    def test_what_is_handed_in_does_not_change(self):
        normals = [X, X, Y]
        circuits(normals).clear()
        self.assertEqual(normals, [X, X, Y])


class Forms(unittest.TestCase):

    def test_form(self):
        self.assertEqual(form(((0, 1), (1, -1)), [(1, 2), (1, 3)]), (1, 6))
        self.assertEqual(form(((1, 3, 4), (1, -2, 3)), [(9, 1), (1, 2), (9, 1), (1, 4), (1, 3)]), (1, 1))

    def test_planes_through_one_point(self):
        point = ((1, 2), (-3, 5), (7, 3))
        normals = [(1, 0, 0), (1, 2, -3), (0, 1, 1), (1, 1, 1), (2, 3, -2), (0, 1, 1)]
        offsets = [along(normal, point) for normal in normals]
        found = circuits(normals)
        self.assertTrue(found)
        for circuit in found:
            self.assertEqual(form(circuit, offsets), (0, 1))

    def test_planes_that_have_none(self):
        point = ((1, 2), (-3, 5), (7, 3))
        normals = [(1, 0, 0), (1, 2, -3), (0, 1, 1), (1, 1, 1), (2, 3, -2), (0, 1, 1)]
        for circuit in circuits(normals):
            for place, multiplier in zip(*circuit):
                offsets = [along(normal, point) for normal in normals]
                offsets[place] = fraction(offsets[place][0] + offsets[place][1], offsets[place][1])
                self.assertEqual(form(circuit, offsets), (multiplier, 1))

    def test_vanishes(self):
        normals = [X, Y, (1, 1, 0), (0, 0, 1)]
        self.assertIs(vanishes(((0, 1, 2), (1, 1, -1)), normals), True)
        self.assertIs(vanishes(((0, 1, 2), (-2, -2, 2)), normals), True)
        self.assertIs(vanishes(((0, 1, 2), (1, 1, 1)), normals), False)
        self.assertIs(vanishes(((0, 1, 2), (1, 2, -1)), normals), False)
        self.assertIs(vanishes(((0, 1, 3), (1, 1, -1)), normals), False)
        self.assertIs(vanishes(((0, 1), (1, -1)), [X, X]), True)
        for other in ((2, 1, 1), (1, 2, 1), (1, 1, 2)):
            self.assertIs(vanishes(((0, 1), (1, -1)), [(1, 1, 1), other]), False)


if __name__ == "__main__":
    unittest.main()
