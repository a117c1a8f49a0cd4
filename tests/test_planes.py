"""Points 22 and 24 to 27, and of 29 what is independent: directions, pairs, planes."""

import unittest
from itertools import product

from truepart import planes, vectors
from truepart.numbers import fraction

SMALL = list(product((-2, 0, 1, 3), repeat=3))
DIRECTIONS = [a for a in SMALL if a != (0, 0, 0)]
X, Y, Z = (1, 0, 0), (0, 1, 0), (0, 0, 1)


def at(x, y, z):
    return (fraction(*x), fraction(*y), fraction(*z))


class Products(unittest.TestCase):

    def test_dot(self):
        for module in (planes, vectors):
            self.assertEqual(module.dot((1, 2, 3), (4, -5, 6)), 12)
            self.assertEqual(module.dot((0, 0, 0), (4, -5, 6)), 0)
            self.assertEqual(module.dot((-7, 0, 1), (2, 9, 0)), -14)

    def test_cross(self):
        for module in (planes, vectors):
            self.assertEqual(module.cross(X, Y), Z)
            self.assertEqual(module.cross(Y, X), (0, 0, -1))
            self.assertEqual(module.cross((1, 2, 3), (4, 5, 6)), (-3, 6, -3))
            self.assertEqual(module.cross((2, -3, 5), (7, 11, -13)), (-16, 61, 43))
            self.assertEqual(module.cross((1, 2, 3), (-2, -4, -6)), (0, 0, 0))
            self.assertEqual(module.cross((0, 0, 0), (1, 2, 3)), (0, 0, 0))

    def test_triple_product(self):
        for triple in (planes.triple, vectors.volume):
            self.assertEqual(triple(X, Y, Z), 1)
            self.assertEqual(triple(Y, X, Z), -1)
            self.assertEqual(triple((1, 2, 3), (4, 5, 6), (7, 8, 10)), -3)
            self.assertEqual(triple((1, 2, 3), (4, 5, 6), (7, 8, 9)), 0)
            self.assertEqual(triple((0, 0, 0), X, Y), 0)
            self.assertEqual(triple((2, 0, 1), (0, 3, 0), (5, 7, 11)), 51)

    def test_along(self):
        for module in (planes, vectors):
            self.assertEqual(module.along((1, 2, 3), at((1, 2), (1, 3), (1, 4))), (23, 12))
            self.assertEqual(module.along((-4, 0, 6), at((1, 2), (5, 7), (1, 3))), (0, 1))
            self.assertEqual(module.along((0, -5, 0), at((1, 2), (2, 5), (1, 3))), (-2, 1))
            self.assertEqual(module.along((0, 0, 1), at((1, 2), (2, 5), (-7, 3))), (-7, 3))


class Parallels(unittest.TestCase):

    def test_directions(self):
        self.assertIs(planes.is_parallel((1, 2, 3), (2, 4, 6)), True)
        self.assertIs(planes.is_parallel((1, 2, 3), (-1, -2, -3)), True)
        self.assertIs(planes.is_parallel((1, 2, 3), (1, 2, 4)), False)
        self.assertIs(planes.is_parallel(X, Y), False)
        self.assertIs(planes.is_parallel((0, 0, 5), (0, 0, -7)), True)

    def test_pairs(self):
        self.assertIs(vectors.parallel((1, 2), (2, 4)), True)
        self.assertIs(vectors.parallel((1, 2), (-3, -6)), True)
        self.assertIs(vectors.parallel((1, 2), (2, 1)), False)
        self.assertIs(vectors.parallel((1, 0), (0, 1)), False)
        self.assertIs(vectors.parallel((1, 0), (-7, 0)), True)
        self.assertIs(vectors.parallel((0, 3), (0, 1)), True)
        self.assertIs(vectors.parallel((1, 2), (1, -2)), False)


class Canonical(unittest.TestCase):

    def test_examples(self):
        for direction, canonical, divisor in [
                ((1, 0, 0), (1, 0, 0), 1), ((-1, 0, 0), (1, 0, 0), -1), ((0, -4, 6), (0, 2, -3), -2),
                ((0, 0, -5), (0, 0, 1), -5), ((6, -9, 15), (2, -3, 5), 3), ((-6, -9, -15), (2, 3, 5), -3),
                ((0, 7, -7), (0, 1, -1), 7), ((4, 0, -6), (2, 0, -3), 2), ((5, 7, 11), (5, 7, 11), 1)]:
            self.assertEqual(planes.canonical(direction), canonical)
            self.assertEqual(planes.divisor(direction), divisor)
            self.assertEqual(vectors.primitive(direction), (canonical, divisor))

    def test_each_is_its_canonical_times_its_divisor(self):
        for direction in DIRECTIONS:
            canonical, divisor = vectors.primitive(direction)
            self.assertEqual(tuple(part * divisor for part in canonical), direction)
            self.assertEqual(planes.canonical(canonical), canonical)
            self.assertEqual(planes.divisor(canonical), 1)
            self.assertGreater([part for part in canonical if part][0], 0)


class Planes(unittest.TestCase):

    def test_plane(self):
        self.assertEqual(planes.plane((0, 0, 1), (3, 2)), ((0, 0, 1), (3, 2)))
        self.assertEqual(planes.plane((0, 0, -2), (3, 1)), ((0, 0, 1), (-3, 2)))
        self.assertEqual(planes.plane((6, -9, 0), (1, 2)), ((2, -3, 0), (1, 6)))
        self.assertEqual(planes.plane((-1, 5, 0), (0, 1)), ((1, -5, 0), (0, 1)))

    def test_plane_of(self):
        self.assertEqual(vectors.plane_of((0, 0, 1), (3, 2)), (((0, 0, 1), (3, 2)), True))
        self.assertEqual(vectors.plane_of((0, 0, -2), (3, 1)), (((0, 0, 1), (-3, 2)), False))
        self.assertEqual(vectors.plane_of((6, -9, 0), (1, 2)), (((2, -3, 0), (1, 6)), True))
        self.assertEqual(vectors.plane_of((-6, 9, 0), (1, 2)), (((2, -3, 0), (-1, 6)), False))

    def test_a_plane_has_the_points_of_its_direction_and_offset(self):
        point = at((1, 2), (-3, 5), (7, 1))
        for direction in DIRECTIONS:
            offset = planes.along(direction, point)
            self.assertEqual(planes.side(planes.plane(direction, offset), point), 0)
            wall, is_upper = vectors.plane_of(direction, offset)
            beyond = tuple(fraction(a[0] + part * a[1], a[1]) for a, part in zip(point, direction))
            self.assertEqual(planes.side(wall, beyond), 1 if is_upper else -1)

    def test_side(self):
        wall = ((1, 2, 0), (3, 1))
        self.assertEqual(planes.side(wall, at((1, 1), (1, 1), (9, 1))), 0)
        self.assertEqual(planes.side(wall, at((1, 1), (99, 100), (9, 1))), -1)
        self.assertEqual(planes.side(wall, at((1, 1), (101, 100), (9, 1))), 1)

    def test_sides(self):
        walls = [(X, (1, 2)), (Y, (0, 1)), ((1, 1, 1), (3, 1)), (X, (1, 2))]
        self.assertEqual(planes.sides(walls, at((1, 2), (1, 1), (1, 1))), (0, 1, -1, 0))
        self.assertEqual(planes.sides([], at((1, 2), (1, 1), (1, 1))), ())
        self.assertEqual(len(walls), 4)


class Independence(unittest.TestCase):

    def test_examples(self):
        for normals, many in [
                ([], 0), ([X], 1), ([(0, 0, 7)], 1), ([X, X], 1), ([X, (-3, 0, 0)], 1), ([X, Y], 2), ([X, (1, 1, 0)], 2),
                ([X, Y, Z], 3), ([X, Y, (1, 1, 0)], 2), ([X, X, X], 1), ([X, X, Y], 2), ([X, Y, (3, 5, 1)], 3),
                ([X, Y, (1, 1, 0), (1, -1, 0), (2, 3, 0)], 2), ([X, Y, (1, 1, 0), X, Z], 3), ([X, Y, Z, (1, 1, 1), X], 3),
                ([(1, 2, 3), (2, 4, 6), (4, 5, 6), (5, 7, 9), (-3, -3, -3)], 2),
                ([(1, 2, 3), (2, 4, 6), (-1, -2, -3), (3, 6, 9)], 1)]:
            self.assertEqual(planes.independent(normals), many, normals)
            self.assertEqual(planes.independent(normals[::-1]), many, normals)

    def test_what_is_handed_in_does_not_change(self):
        normals = [X, Y, (1, 1, 0), Z]
        planes.independent(normals)
        self.assertEqual(normals, [X, Y, (1, 1, 0), Z])


class Meetings(unittest.TestCase):

    def test_three_planes_that_meet(self):
        self.assertEqual(planes.meeting((X, (1, 2)), (Y, (-3, 1)), (Z, (5, 7))), ((1, 2), (-3, 1), (5, 7)))
        self.assertEqual(planes.meeting((Z, (5, 7)), (X, (1, 2)), (Y, (-3, 1))), ((1, 2), (-3, 1), (5, 7)))
        found = planes.meeting(((1, 1, 0), (3, 1)), ((1, -1, 0), (1, 1)), ((1, 1, 1), (0, 1)))
        self.assertEqual(found, ((2, 1), (1, 1), (-3, 1)))

    def test_three_planes_that_do_not(self):
        self.assertIsNone(planes.meeting((X, (1, 2)), (X, (1, 3)), (Y, (0, 1))))
        self.assertIsNone(planes.meeting((X, (1, 2)), (X, (1, 2)), (Y, (0, 1))))
        self.assertIsNone(planes.meeting((X, (0, 1)), (Y, (0, 1)), ((1, 1, 0), (0, 1))))
        self.assertIsNone(planes.meeting((X, (0, 1)), (Y, (0, 1)), ((1, 1, 0), (1, 1))))

    def test_the_point_is_on_all_three(self):
        normals = [planes.canonical(direction) for direction in DIRECTIONS[::5]]
        for three in product(normals, repeat=3):
            walls = [(three[0], (1, 2)), (three[1], (-5, 3)), (three[2], (7, 1))]
            found = planes.meeting(*walls)
            if planes.independent(list(three)) < 3:
                self.assertIsNone(found)
            else:
                self.assertEqual(planes.sides(walls, found), (0, 0, 0))


if __name__ == "__main__":
    unittest.main()
