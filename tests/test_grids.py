"""Point 28 where all planes are square to the axes: the places between them, and the cells."""

import random
import unittest

import stars_reference
from solids import at, points
from truepart.cells import in_closure, walls
from truepart.grids import Grid, Ruler, bits_of
from truepart.numbers import fraction
from truepart.planes import sides
from truepart.signs import signs_beside

LOW, HIGH = at(0, 0, 0), at(2, 3, 4)
X, Y, Z = (1, 0, 0), (0, 1, 0), (0, 0, 1)


def plane(normal, number, divisor=1):
    return (normal, fraction(number, divisor))


def some_planes(chance):
    found = {}
    for _ in range(chance.randint(0, 6)):
        found[plane(chance.choice((X, Y, Z)), chance.randint(-2, 9), 2)] = True
    return [wall for wall in found if wall not in walls(LOW, HIGH)] + walls(LOW, HIGH)


class Bits(unittest.TestCase):

    def test_bits(self):
        self.assertEqual(bits_of(0), [])
        self.assertEqual(bits_of(1), [0])
        self.assertEqual(bits_of(0b101100), [2, 3, 5])
        self.assertEqual(bits_of((1 << 300) + (1 << 64) + 1), [0, 64, 300])


class Rulers(unittest.TestCase):

    def test_marks(self):
        planes = [plane(X, 1), plane(Y, 1), plane(X, 1, 2), plane(X, 3), plane(X, -1), plane(X, 1)] + walls(LOW, HIGH)
        ruler = Ruler(planes, 0)
        self.assertEqual(ruler.offsets, [(0, 1), (1, 2), (1, 1), (2, 1)])
        self.assertEqual(ruler.there, [[6], [2], [0, 5], [7]])
        self.assertEqual(ruler.spots, {6: 1, 2: 3, 0: 5, 5: 5, 7: 7, 3: 9, 4: -1})
        self.assertEqual(ruler.rows[0], [-1, 0, -1, -1, 1, -1, -1, -1, 0, 0, 0, 0])
        self.assertEqual(ruler.rows[5], [0, 0, 1, -1, 1, 0, 1, -1, 0, 0, 0, 0])
        self.assertEqual(ruler.rows[8], [1, 0, 1, -1, 1, 1, 1, 1, 0, 0, 0, 0])

    def test_spans(self):
        ruler = Ruler([plane(X, 1)] + walls(LOW, HIGH), 0)
        self.assertEqual([ruler.offsets[slice(*ruler.span(position))] for position in range(1, 6)], [
            [(0, 1)], [(0, 1), (1, 1)], [(1, 1)], [(1, 1), (2, 1)], [(2, 1)]])

    def test_keys_are_in_the_order_of_the_signs(self):
        chance = random.Random(3)
        for _ in range(10):
            grid = Grid(some_planes(chance))
            rows = []
            for x, (key_x, *_) in enumerate(grid.rulers[0].steps()):
                for y, (key_y, *_) in enumerate(grid.rulers[1].steps()):
                    for z, (key_z, *_) in enumerate(grid.rulers[2].steps()):
                        rows.append((key_x + key_y + key_z, grid.signs_at([x + 1, y + 1, z + 1])))
            self.assertEqual([signs for _, signs in sorted(rows)], sorted(signs for _, signs in rows))


class Grids(unittest.TestCase):

    def test_the_cells_of_a_room(self):
        cells = dict(Grid(walls(LOW, HIGH)).all_cells())
        self.assertEqual(len(cells), 27)
        self.assertEqual(cells[(0, -1, 1, -1, 1, 0)], points((0, 0, 4), (0, 3, 4)))

    def test_cells(self):
        chance = random.Random(2)
        for _ in range(10):
            planes = some_planes(chance)
            self.assertEqual(Grid(planes).all_cells(), stars_reference.arrange(planes, LOW, HIGH), planes)

    def test_planes_given_twice(self):
        planes = [plane(Y, 1), plane(X, 2), plane(Y, 1)] + walls(LOW, HIGH)
        self.assertEqual(Grid(planes).all_cells(), stars_reference.arrange(planes, LOW, HIGH))

    def test_each_cell_has_vertices_of_its_own(self):
        cells = Grid([plane(Z, 1)] + walls(LOW, HIGH)).all_cells()
        self.assertEqual(len({id(there) for _, there in cells}), len(cells))

    def test_planes_through_vertices(self):
        chance = random.Random(5)
        for _ in range(5):
            planes = some_planes(chance)
            grid = Grid(planes)
            for signs, there in grid.all_cells():
                if len(there) == 1:
                    wanted = [k for k, sign in enumerate(sides(planes, there[0])) if sign == 0]
                    self.assertEqual(bits_of(grid.planes_through(there[0])), wanted)

    def test_places_and_flats(self):
        chance = random.Random(4)
        for _ in range(10):
            planes = some_planes(chance)
            grid = Grid(planes)
            cells = grid.all_cells()
            known = {}
            for place in range(grid.whole.bit_length()):
                known[grid.signs_at(grid.positions_of(place))] = place
            for signs, place in known.items():
                self.assertEqual([grid.above[k] >> place & 1 for k in range(len(planes))], [int(sign > 0) for sign in signs])
            full = [signs for signs, _ in cells if 0 not in signs]
            inside = [signs for signs in full if chance.random() < 0.5]
            wanted = []
            for signs, there in cells:
                if signs.count(0) == 1:
                    below, above = signs_beside(signs, signs.index(0))
                    if (below in inside) != (above in inside):
                        wanted.append((signs, there, signs.index(0), known[below], known[above]))
            self.assertEqual(grid.flats(sum(1 << known[signs] for signs in inside)), wanted)

    def test_vertices_are_those_in_the_closure(self):
        cells = Grid([plane(X, 1), plane(Y, 2)] + walls(LOW, HIGH)).all_cells()
        corners = [(signs, there[0]) for signs, there in cells if len(there) == 1]
        for signs, there in cells:
            self.assertEqual(there, sorted(point for near, point in corners if in_closure(near, signs)))


if __name__ == "__main__":
    unittest.main()
