"""Point 59: corners."""

import random
import unittest
from itertools import combinations

import reference
from solids import block, body_of, half, origins, plain_block, points, slotted_block, worth
from test_bodies import bodies
from truepart.corners import corner_points, corners


def found(body, *names):
    return corner_points(body, *[origins(text) for text in names])


class Points(unittest.TestCase):

    def test_of_a_block(self):
        body = plain_block()
        self.assertEqual(found(body, "1.a", "1.b", "1.high"), points((8, 3, 4)))
        self.assertEqual(found(body, "1.high", "1.a", "1.b"), points((8, 3, 4)))
        self.assertEqual(found(body, "1.c", "1.d", "1.low"), points((2, 7, 1)))
        self.assertEqual(found(body, "1.a", "1.c", "1.high"), [])

    def test_of_a_slot(self):
        body = slotted_block()
        self.assertEqual(found(body, "1.b", "2.low", "2.a"), points((8, 4, 2)))
        self.assertEqual(found(body, "1.b", "1.high", "2.a"), points((8, 4, 4)))
        self.assertEqual(found(body, "1.d", "1.high", "2.a 2.c"), points((2, 4, 4), (2, 5, 4)))
        self.assertEqual(found(body, "1.high", "1.a", "2.a"), [])

    def test_lists(self):
        body = plain_block()
        self.assertEqual(found(body, "1.a 1.c", "1.b 1.d", "1.high"), points((2, 3, 4), (2, 7, 4), (8, 3, 4), (8, 7, 4)))
        whole = "1.a 1.b 1.c 1.d 1.low 1.high"
        self.assertEqual(len(found(body, whole, whole, whole)), 8)
        self.assertEqual(found(body, "1.a 1.b", "1.b 1.a", "1.high"), points((8, 3, 4)))
        self.assertEqual(corner_points(body, [], origins("1.a"), origins("1.b")), [])
        self.assertEqual(corner_points(body, origins("1.a"), origins("1.b"), []), [])
        self.assertEqual(found(body, "1.a", "1.b 7.a", "2.high 1.high"), points((8, 3, 4)))
        self.assertEqual(found(body, "1.a", "1.b", "1.b"), [])

    def test_flat_places_at_a_vertex_that_have_no_corner(self):
        # At (8, 4, 1) a plane of the slot meets the edge of 1.b and 1.low; at the top there are two of one plane.
        body = slotted_block()
        self.assertEqual(found(body, "1.b", "1.low", "1.low 1.b"), [])
        body = body_of(block(1, "add", (2, 5), (2, 4), (1, 3)), block(2, "add", (5, 8), (2, 4), (1, 3)))
        self.assertEqual(found(body, "1.high", "2.high", "1.a"), [])
        self.assertEqual(found(body, "1.high", "2.high", "1.a 2.a"), [])

    def test_normals_that_are_not_independent(self):
        # A roof of three planes that meet in one line, which ends at the top of the block's wall.
        body = body_of(block(1, "add", (2, 8), (2, 8), (1, 9)), half(2, "cut", (1, 0, 1), worth(10)),
                       half(3, "cut", (-1, 0, 1), worth(0)), half(4, "cut", (0, 0, 1), worth(5)))
        self.assertEqual(found(body, "2.half", "3.half", "4.half"), [])
        self.assertEqual(found(body, "2.half", "3.half", "1.a"), points((5, 2, 5)))
        body = body_of(block(1, "add", (2, 8), (2, 8), (1, 9)), half(2, "cut", (1, 0, 1), worth(10)),
                       half(3, "cut", (-1, 0, 1), worth(0)), block(4, "add", (4, 5), (2, 8), (4, 6)))
        self.assertEqual(found(body, "2.half", "4.b", "4.high"), [])
        self.assertEqual(found(body, "2.half", "3.half", "4.b"), [])
        self.assertIn(points((5, 2, 5))[0], found(body, "2.half", "4.b", "1.a 4.a"))

    def test_what_is_handed_in_does_not_change(self):
        body, wanted = plain_block(), origins("1.a 1.b")
        corner_points(body, wanted, wanted, origins("1.high")).clear()
        self.assertEqual(wanted, origins("1.a 1.b"))
        self.assertEqual(corner_points(body, wanted, wanted, origins("1.high")), points((8, 3, 4)))

    def test_against_the_words_of_the_document(self):
        chance = random.Random(33)
        for body in bodies():
            known = sorted({flat[3] for flat in body.flats()})
            rows = [[origin] for origin in known] + [chance.sample(known, min(len(known), k)) for k in (2, 3, 5)]
            for _ in range(20):
                three = [chance.choice(rows) for _ in range(3)]
                self.assertEqual(corner_points(body, *three), reference.corner_points(body, *three))


class Corners(unittest.TestCase):

    def test_of_a_block(self):
        body = plain_block()
        self.assertEqual([point for point, _ in corners(body)], points(
            (2, 3, 1), (2, 3, 4), (2, 7, 1), (2, 7, 4), (8, 3, 1), (8, 3, 4), (8, 7, 1), (8, 7, 4)))
        self.assertEqual(corners(body)[5], (points((8, 3, 4))[0], origins("1.a 1.b 1.high")))

    def test_all_origins_at_the_point(self):
        body = body_of(block(1, "add", (2, 5), (2, 4), (1, 3)), block(2, "add", (5, 8), (2, 4), (3, 5)))
        told = dict(corners(body))
        self.assertEqual(told[points((5, 2, 3))[0]], origins("1.a 1.b 1.high 2.a 2.d 2.low"))

    def test_vertices_that_are_no_corners(self):
        body = body_of(block(1, "add", (2, 5), (2, 4), (1, 3)), block(2, "add", (5, 8), (2, 4), (1, 3)))
        self.assertNotIn(points((5, 2, 3))[0], dict(corners(body)))
        self.assertEqual(len(corners(body)), 8)
        self.assertEqual(len(corners(slotted_block())), 16)

    def test_of_nothing(self):
        self.assertEqual(corners(body_of()), [])

    def test_of_three_different_origins(self):
        for body in bodies():
            flats = body.flats()
            expected = []
            for three in combinations(sorted({flat[3] for flat in flats}), 3):
                expected += corner_points(body, *[[origin] for origin in three])
            expected = sorted(set(expected), key=reference.order)
            self.assertEqual([point for point, _ in corners(body)], expected)
            for point, there in corners(body):
                self.assertEqual(there, sorted({flat[3] for flat in flats if point in flat[1]}))

    def test_one_origin_with_two_planes(self):
        # Of the three planes at the corners of this block two have the same origin.
        sides = [((1, (), name), normal, worth(offset), above) for name, normal, offset, above in [
            ("a", (1, 0, 0), 2, True), ("a", (0, 1, 0), 2, True), ("b", (1, 0, 0), 5, False), ("c", (0, 1, 0), 5, False),
            ("d", (0, 0, 1), 2, True), ("e", (0, 0, 1), 5, False)]]
        test = ("side", 0)
        for k in range(1, 6):
            test = ("both", test, ("side", k))
        body = body_of((1, ("add", sides, test)))
        self.assertEqual([point for point, _ in corners(body)], points((2, 5, 2), (2, 5, 5), (5, 2, 2), (5, 2, 5), (5, 5, 2), (5, 5, 5)))
        self.assertEqual(found(body, "1.a", "1.a", "1.d"), points((2, 2, 2)))


if __name__ == "__main__":
    unittest.main()
