"""Points 53, 58 and 61: areas, lengths and volumes."""

import unittest
from fractions import Fraction
from itertools import permutations

import reference
from solids import at, block, body_of, half, plain_block, points, slotted_block, worth
from test_bodies import bodies
from truepart.measures import area_of, length_of, volume


class Areas(unittest.TestCase):

    def assert_area(self, normal, expected, *corners):
        orders = list(permutations(points(*corners)))
        for order in orders[::max(1, len(orders) // 60)]:
            self.assertEqual(area_of([list(order)], normal), expected, order)

    def test_triangles(self):
        self.assert_area((0, 0, 1), (1, 2), (0, 0, 0), (1, 0, 0), (0, 1, 0))
        self.assert_area((0, 0, 1), (3, 1), (1, 1, 5), (3, 1, 5), (2, 4, 5))
        self.assert_area((1, 0, 0), (1, 8), (7, 0, 0), (7, (1, 2), 0), (7, 0, (1, 2)))
        self.assert_area((0, 1, 0), (7, 2), (0, 2, 0), (3, 2, 1), (1, 2, -2))

    def test_squares(self):
        self.assert_area((1, 0, 0), (6, 1), (0, 0, 0), (0, 2, 0), (0, 2, 3), (0, 0, 3))
        self.assert_area((0, 1, 0), (6, 1), (0, 0, 0), (2, 0, 0), (2, 0, 3), (0, 0, 3))
        self.assert_area((0, 0, 1), (2, 1), (1, 0, 0), (0, 1, 0), (-1, 0, 0), (0, -1, 0))

    def test_many_corners(self):
        self.assert_area((0, 0, 1), (14, 1), (1, 0, 0), (3, 0, 0), (4, 1, 0), (4, 3, 0), (3, 4, 0), (1, 4, 0), (0, 3, 0), (0, 1, 0))
        self.assert_area((0, 0, 1), (9, 1), (0, 0, 0), (1, 2, 0), (3, 3, 0), (4, 1, 0), (2, -1, 0))

    def test_slanting_planes(self):
        # The length of (1, 1, 1) is the square root of 3; a triangle with sides of the square root of 2 has half of it.
        self.assert_area((1, 1, 1), (1, 2), (1, 0, 0), (0, 1, 0), (0, 0, 1))
        self.assert_area((1, 1, 0), (3, 1), (1, 0, 0), (0, 1, 0), (1, 0, 3), (0, 1, 3))
        self.assert_area((1, -1, 0), (3, 1), (0, 0, 0), (1, 1, 0), (0, 0, 3), (1, 1, 3))
        self.assert_area((0, 3, 4), (2, 1), (0, 0, 0), (2, 0, 0), (0, 4, -3), (2, 4, -3))
        # (3, 2, 0) x (0, 2, 1) is (2, -3, 6).
        self.assert_area((2, -3, 6), (1, 1), (0, 0, 0), (3, 2, 0), (3, 4, 1), (0, 2, 1))

    def test_normals_of_any_length_and_direction(self):
        self.assert_area((0, 0, -2), (1, 4), (0, 0, 0), (1, 0, 0), (0, 1, 0))
        self.assert_area((0, -1, 0), (7, 2), (0, 2, 0), (3, 2, 1), (1, 2, -2))
        self.assert_area((-3, -3, -3), (1, 6), (1, 0, 0), (0, 1, 0), (0, 0, 1))

    def test_several(self):
        one, other = points((0, 0, 0), (1, 0, 0), (0, 1, 0)), points((0, 0, 4), (2, 0, 4), (2, 2, 4), (0, 2, 4))
        self.assertEqual(area_of([one, other], (0, 0, 1)), (9, 2))
        self.assertEqual(area_of([one, one, one], (0, 0, 1)), (3, 2))
        self.assertEqual(area_of([], (0, 0, 1)), (0, 1))

    def test_what_is_handed_in_does_not_change(self):
        polygon = points((1, 0, 0), (0, 1, 0), (-1, 0, 0), (0, -1, 0))
        area_of([polygon], (0, 0, 1))
        self.assertEqual(polygon, points((1, 0, 0), (0, 1, 0), (-1, 0, 0), (0, -1, 0)))


class Lengths(unittest.TestCase):

    def test_along_axes(self):
        self.assertEqual(length_of((1, 0, 0), at(1, 2, 3), at(5, 2, 3)), (4, 1))
        self.assertEqual(length_of((0, 0, 1), at(1, 2, (1, 2)), at(1, 2, 3)), (5, 2))

    def test_directions_that_are_not_of_length_1(self):
        self.assertEqual(length_of((1, 1, 0), at(0, 0, 0), at(3, 3, 0)), (3, 1))
        self.assertEqual(length_of((1, -2, 3), at(0, 0, 0), at((1, 2), -1, (3, 2))), (1, 2))
        self.assertEqual(length_of((2, 3, 6), at(1, 1, 1), at(5, 7, 13)), (2, 1))

    def test_from_the_end_to_the_start(self):
        self.assertEqual(length_of((1, 1, 0), at(3, 3, 0), at(0, 0, 0)), (-3, 1))
        self.assertEqual(length_of((1, 1, 0), at(3, 3, 0), at(3, 3, 0)), (0, 1))

    def test_points_not_on_one_line(self):
        self.assertEqual(length_of((1, 2, 2), at(0, 0, 0), at(9, 0, 0)), (1, 1))


class Volumes(unittest.TestCase):

    def test_boxes(self):
        self.assertEqual(volume(plain_block()), (72, 1))
        self.assertEqual(volume(body_of(block(1, "add", (-5, 15), ("1/3", "1/2"), (9, 20)))), (5, 3))
        self.assertEqual(volume(body_of(block(1, "add", (-5, 15), (-5, 15), (-5, 15)))), (1000, 1))

    def test_a_box_with_a_slot(self):
        self.assertEqual(volume(slotted_block()), (60, 1))

    def test_two_boxes(self):
        self.assertEqual(volume(body_of(block(1, "add", (0, 1), (0, 1), (0, 1)), block(2, "add", (1, 3), (1, 3), (1, 3)))), (9, 1))

    def test_a_hollow_box(self):
        self.assertEqual(volume(body_of(block(1, "add", (1, 5), (1, 5), (1, 5)), block(2, "cut", (2, 4), (2, 4), (2, 4)))), (56, 1))

    def test_a_pyramid(self):
        body = body_of(half(1, "add", (1, 1, 1), worth(0)), half(2, "cut", (1, 2, 3), worth(6)))
        self.assertEqual(volume(body), (6, 1))
        body = body_of(half(1, "add", (0, 0, 1), worth(1)), half(2, "cut", (1, 0, 1), worth(9)),
                       half(3, "cut", (-1, 0, 1), worth(-1)), half(4, "cut", (0, 1, 1), worth(9)),
                       half(5, "cut", (0, -1, 1), worth(-1)))
        # At the height 1 it is 6 wide both ways, and its top is at the height 4.
        self.assertEqual(volume(body), (36, 1))

    def test_an_empty_body(self):
        self.assertEqual(volume(body_of()), (0, 1))
        self.assertEqual(volume(body_of(block(1, "cut", (2, 8), (3, 7), (1, 4)))), (0, 1))

    def test_against_pyramids(self):
        for body in bodies():
            whole = sum((reference.solid_volume(corners) for _, corners in body.solid_cells()), Fraction(0))
            self.assertEqual(volume(body), (whole.numerator, whole.denominator))


if __name__ == "__main__":
    unittest.main()
