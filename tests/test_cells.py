"""Points 24, 28, 29 and 30: rooms, cells and vertices."""

import random
import unittest
from fractions import Fraction
from itertools import product

import stars_reference
from solids import at, points
from truepart.cells import (
    arrange, before, centre, count_cells, dimension, in_closure, in_order, is_inside, vertices, walls)
from truepart.numbers import fraction
from truepart.planes import canonical, sides

LOW, HIGH = at(0, 0, 0), at(2, 3, 4)
X, Y, Z = (1, 0, 0), (0, 1, 0), (0, 0, 1)
ROOM = [(X, (0, 1)), (X, (2, 1)), (Y, (0, 1)), (Y, (3, 1)), (Z, (0, 1)), (Z, (4, 1))]
ROOM_CORNERS = points(*product((0, 2), (0, 3), (0, 4)))


def plane(normal, number, divisor=1):
    return (normal, fraction(number, divisor))


class Rooms(unittest.TestCase):

    def test_walls(self):
        self.assertEqual(walls(LOW, HIGH), ROOM)
        self.assertEqual(walls(at((-1, 2), -2, -3), at(0, (1, 3), 5)), [
            (X, (-1, 2)), (X, (0, 1)), (Y, (-2, 1)), (Y, (1, 3)), (Z, (-3, 1)), (Z, (5, 1))])

    def test_the_boundary_belongs_to_the_room(self):
        for point in [(1, 1, 1), (0, 1, 1), (2, 1, 1), (1, 0, 1), (1, 3, 1), (1, 1, 0), (1, 1, 4), (0, 0, 0), (2, 3, 4)]:
            self.assertIs(is_inside(at(*point), LOW, HIGH), True)
        for point in [((-1, 9), 1, 1), ((19, 9), 1, 1), (1, (-1, 9), 1), (1, (28, 9), 1), (1, 1, (-1, 9)),
                      (1, 1, (37, 9)), (3, 4, 5), (-1, -1, -1)]:
            self.assertIs(is_inside(at(*point), LOW, HIGH), False)


class Orders(unittest.TestCase):

    def test_before(self):
        self.assertIs(before(at(1, 9, 9), at(2, 0, 0)), True)
        self.assertIs(before(at(2, 0, 0), at(1, 9, 9)), False)
        self.assertIs(before(at(1, (1, 3), 9), at(1, (1, 2), 0)), True)
        self.assertIs(before(at(1, (1, 2), 0), at(1, (1, 3), 9)), False)
        self.assertIs(before(at(1, 2, (-1, 2)), at(1, 2, (-1, 3))), True)
        self.assertIs(before(at(1, 2, 3), at(1, 2, 3)), False)

    def test_in_order(self):
        given = points((1, 2, 3), ((1, 2), 9, 9), (1, 2, (5, 2)), (1, (3, 2), 9), (-1, 0, 0), ((1, 2), 9, 9), ((-3, 2), 7, 7))
        copy = list(given)
        self.assertEqual(in_order(given), points(
            ((-3, 2), 7, 7), (-1, 0, 0), ((1, 2), 9, 9), (1, (3, 2), 9), (1, 2, (5, 2)), (1, 2, 3)))
        self.assertEqual(given, copy)
        self.assertEqual(in_order([]), [])

    def test_fractions_close_to_one_another(self):
        close = [((1000003, 1000004)), (1000002, 1000003), (999999, 1000000), (1, 1), (-1000002, 1000003),
                 (-1000003, 1000004), (1, 1000003), (1, 1000004), (0, 1)]
        given = [at(a, b, 0) for a in close for b in close]
        self.assertEqual(in_order(given), sorted(given, key=lambda point: [Fraction(*part) for part in point]))

    def test_centre(self):
        self.assertEqual(centre(points((1, 2, 3))), at(1, 2, 3))
        self.assertEqual(centre(points((1, 2, 3), (2, 0, -3))), at((3, 2), 1, 0))
        self.assertEqual(centre(points(((1, 2), 0, 0), (0, (1, 3), 0), (0, 0, 1))), at((1, 6), (1, 9), (1, 3)))


class Vertices(unittest.TestCase):

    def test_of_the_room(self):
        self.assertEqual(vertices(ROOM, LOW, HIGH), ROOM_CORNERS)

    def test_only_the_given_planes_count(self):
        self.assertEqual(vertices([], LOW, HIGH), [])
        self.assertEqual(vertices([plane(X, 1), plane(Y, 1)], LOW, HIGH), [])
        self.assertEqual(vertices([plane(X, 1), plane(Y, 1), plane(Z, 1)], LOW, HIGH), points((1, 1, 1)))
        self.assertEqual(vertices([plane(X, 1), plane(Y, 1), plane((1, 1, 0), 2)], LOW, HIGH), [])

    def test_the_room_bounds_the_points(self):
        self.assertEqual(vertices([plane(X, 1), plane(Y, 1), plane(Z, 4), plane(Z, 5)], LOW, HIGH), points((1, 1, 4)))
        self.assertEqual(vertices([plane(X, -1), plane(Y, 1), plane(Z, 1)], LOW, HIGH), [])

    def test_each_point_once_and_in_order(self):
        through = [plane(X, 1), plane(Y, 1), plane(Z, 1), plane((1, 1, 1), 3), plane((1, -1, 0), 0), plane(Z, 1, 2)]
        found = vertices(through, LOW, HIGH)
        self.assertEqual(found, points((1, 1, (1, 2)), (1, 1, 1), (1, (3, 2), (1, 2)), ((5, 4), (5, 4), (1, 2)), (
            (3, 2), 1, (1, 2))))


class Arrangements(unittest.TestCase):

    def assert_whole(self, planes, low=LOW, high=HIGH):
        """Compares the cells with what the document says of them; returns them."""
        whole = planes + walls(low, high)
        found = arrange(whole, low, high)
        keys = [signs for signs, _ in found]
        self.assertEqual(keys, sorted(set(keys)))
        corners = [(point, sides(whole, point)) for point in vertices(whole, low, high)]
        for signs, there in found:
            self.assertIsInstance(signs, tuple)
            self.assertEqual(there, [point for point, near in corners if in_closure(near, signs)])
            self.assertTrue(is_inside(centre(there), low, high))
            self.assertEqual(sides(whole, centre(there)), signs)
        numbers = count_cells(planes, low, high)
        self.assertEqual(numbers, [[dimension(signs, whole) for signs in keys].count(size) for size in range(4)])
        self.assertEqual(numbers[0] - numbers[1] + numbers[2] - numbers[3], 1)
        self.assertEqual(numbers[0], len(corners))
        for steps in product(range(9), repeat=3):
            point = tuple(fraction(a[0] * (8 - k) + b[0] * k, 8) for a, b, k in zip(low, high, steps))
            self.assertIn(sides(whole, point), keys)
        return found

    def test_a_room_alone(self):
        found = self.assert_whole([])
        self.assertEqual(len(found), 27)
        self.assertEqual(count_cells([], LOW, HIGH), [8, 12, 6, 1])
        self.assertEqual(found[0], ((0, -1, 0, -1, 0, -1), points((0, 0, 0))))
        self.assertEqual(found[1], ((0, -1, 0, -1, 1, -1), points((0, 0, 0), (0, 0, 4))))
        self.assertEqual(found[2], ((0, -1, 0, -1, 1, 0), points((0, 0, 4))))
        self.assertEqual(found[4], ((0, -1, 1, -1, 1, -1), points((0, 0, 0), (0, 0, 4), (0, 3, 0), (0, 3, 4))))
        self.assertEqual(found[-1], ((1, 0, 1, 0, 1, 0), points((2, 3, 4))))
        self.assertEqual(dict(found)[(1, -1, 1, -1, 1, -1)], ROOM_CORNERS)

    def test_one_plane(self):
        found = self.assert_whole([plane(X, 1)])
        self.assertEqual(count_cells([plane(X, 1)], LOW, HIGH), [12, 20, 11, 2])
        self.assertEqual(found[0][0], (-1, 0, -1, 0, -1, 0, -1))
        self.assertEqual(dict(found)[(0, 1, -1, 1, -1, 1, -1)], points((1, 0, 0), (1, 0, 4), (1, 3, 0), (1, 3, 4)))

    def test_two_planes(self):
        self.assert_whole([plane(X, 1), plane(Y, 1)])
        self.assertEqual(count_cells([plane(X, 1), plane(Y, 1)], LOW, HIGH), [18, 33, 20, 4])
        self.assertEqual(count_cells([plane(X, 1), plane(X, 1, 2)], LOW, HIGH), [16, 28, 16, 3])
        found = self.assert_whole([plane((1, 1, 0), 2), plane((1, -1, 0), 0)])
        self.assertEqual(dict(found)[(0, 0, 1, -1, 1, -1, 1, -1)], points((1, 1, 0), (1, 1, 4)))

    def test_three_planes(self):
        self.assert_whole([plane(X, 1), plane(Y, 1), plane(Z, 1)])
        self.assertEqual(count_cells([plane(X, 1), plane(Y, 1), plane(Z, 1)], LOW, HIGH), [27, 54, 36, 8])
        found = self.assert_whole([plane((1, 1, 1), 3), plane((1, -1, 0), 0), plane((0, 1, -1), 0)])
        self.assertEqual(dict(found)[(0, 0, 0, 1, -1, 1, -1, 1, -1)], points((1, 1, 1)))

    def test_many_planes_through_one_point(self):
        normals = [X, Y, Z, (1, 1, 0), (1, -1, 0), (1, 1, 1), (0, 1, 2)]
        self.assert_whole([plane(a, sum(a)) for a in normals])
        self.assert_whole([plane(a, 0) for a in [(1, -1, 0), (1, 1, -1), (0, 1, -1), (2, -1, -1), (1, 1, 1)]])

    def test_planes_through_vertices_of_the_room(self):
        self.assertEqual(count_cells([plane((1, 1, 1), 0)], LOW, HIGH), [8, 12, 6, 1])
        self.assertEqual(count_cells([plane((3, 2, 0), 6)], LOW, HIGH), [8, 14, 9, 2])
        self.assertEqual(count_cells([plane(X, 2)], LOW, HIGH), [8, 12, 6, 1])
        self.assert_whole([plane((1, 1, 1), 0), plane((3, 2, 0), 6), plane(X, 2), plane((6, 4, 3), 12)])

    def test_planes_that_miss_the_room(self):
        found = self.assert_whole([plane(X, 3), plane(Y, -1)])
        self.assertEqual(len(found), 27)
        self.assertTrue(all(signs[:2] == (-1, 1) for signs, _ in found))

    def test_planes_given_twice(self):
        found = self.assert_whole([plane(X, 1), plane(Y, 1), plane(X, 1)])
        self.assertEqual(count_cells([plane(X, 1), plane(Y, 1), plane(X, 1)], LOW, HIGH), [18, 33, 20, 4])
        self.assertTrue(all(signs[0] == signs[2] for signs, _ in found))

    def test_planes_of_all_kinds(self):
        chance = random.Random(7)
        for _ in range(6):
            low, high = at(-1, 0, -2), at(1, 2, 1)
            planes = []
            for _ in range(chance.randint(2, 5)):
                direction = (chance.randint(-2, 2), chance.randint(-2, 2), chance.randint(1, 2))
                planes.append((canonical(direction), (chance.randint(-3, 3), 1)))
            self.assert_whole(planes, low, high)

    def test_as_around_each_vertex(self):
        chance = random.Random(14)
        low, high = at(-1, (-1, 2), 0), at(2, 3, (5, 2))
        for _ in range(30):
            planes = []
            slanted = chance.choice((0, 0, 1, 2, 4))
            for k in range(chance.randint(slanted, 6)):
                direction = (chance.randint(-1, 2), chance.randint(-2, 2), chance.randint(1, 2))
                normal = canonical(direction) if k < slanted else chance.choice((X, Y, Z))
                planes.append((normal, fraction(chance.randint(-4, 7), 2)))
            chance.shuffle(planes)
            whole = planes + walls(low, high)
            self.assertEqual(arrange(whole, low, high), stars_reference.arrange(whole, low, high), planes)

    def test_what_is_handed_in_does_not_change(self):
        planes = [plane(X, 1)] + ROOM
        found = arrange(planes, LOW, HIGH)
        found[0][1].clear()
        self.assertEqual(planes, [plane(X, 1)] + ROOM)
        self.assertNotEqual(arrange(planes, LOW, HIGH), found)
        given = [plane(X, 1)]
        count_cells(given, LOW, HIGH)
        self.assertEqual(given, [plane(X, 1)])


class Cells(unittest.TestCase):

    def test_dimension(self):
        whole = [plane(X, 1), plane((1, 1, 0), 2), plane(Y, 1), plane(X, 1)] + ROOM
        for signs, size in [
                ((1, 1, 1, 1), 3), ((0, 1, 1, 0), 2), ((1, 0, 1, 1), 2), ((0, 0, 0, 0), 1), ((1, 0, 0, 1), 1)]:
            self.assertEqual(dimension(signs + (1, -1, 1, -1, 1, -1), whole), size)
        self.assertEqual(dimension((0, 0, 0, 0, 1, -1, 1, -1, 0, -1), whole), 0)

    def test_in_closure(self):
        self.assertIs(in_closure((0, 1, -1), (1, 1, -1)), True)
        self.assertIs(in_closure((1, 1, -1), (1, 1, -1)), True)
        self.assertIs(in_closure((0, 0, 0), (1, 0, -1)), True)
        self.assertIs(in_closure((1, 1, -1), (0, 1, -1)), False)
        self.assertIs(in_closure((-1, 1, -1), (1, 1, -1)), False)
        self.assertIs(in_closure((0, 1, 1), (1, 1, -1)), False)


if __name__ == "__main__":
    unittest.main()
