"""Points 45, 46 and 55 for all places at once, in shells, grids and meshes."""

import random
import unittest

import reference
from solids import at, block, body_of, half, worth
from test_bodies import bodies, random_body
from truepart.bodies import Body
from truepart.cells import arrange, walls
from truepart.cuts import divided_cells
from truepart.grids import Grid, bits_of
from truepart.meshes import Mesh
from truepart.planes import sides
from truepart.segments import boundary_segments
from truepart.shells import Shell, laid_out, places_after, places_in

LOW, HIGH = at(0, 0, 0), at(4, 4, 4)
X, Y, Z = (1, 0, 0), (0, 1, 0), (0, 0, 1)


def plane(normal, offset):
    return (normal, (offset, 1))


class Places(unittest.TestCase):

    def test_tests(self):
        halves = [0b0011, 0b0101]
        one, other = ("side", 0), ("side", 1)
        for test, wanted in [(one, 0b0011), (("not", one), 0b1100), (("both", one, other), 0b0001),
                             (("either", one, other), 0b0111), (("not", ("either", ("not", one), other)), 0b0010),
                             (("both", ("both", one, ("not", other)), one), 0b0010),
                             (("both", one, ("either", other, ("not", other))), 0b0011)]:
            self.assertEqual(places_in(test, halves, 0b1111), wanted, test)

    def test_a_row_of_parts_can_be_long(self):
        test = ("side", 0)
        for k in range(3000):
            test = ("both", test, ("side", k % 2))
        self.assertEqual(places_in(test, [0b0011, 0b0101], 0b1111), 0b0001)

    def test_after_tools(self):
        self.assertEqual(places_after("add", 0b0011, 0b0101), 0b0111)
        self.assertEqual(places_after("cut", 0b0011, 0b0101), 0b0010)
        self.assertEqual(places_after("keep", 0b0011, 0b0101), 0b0001)


class Layouts(unittest.TestCase):

    def test_only_planes_that_are_not_square_need_a_mesh(self):
        self.assertIsInstance(laid_out(LOW, HIGH, [plane(X, 1)] + walls(LOW, HIGH)), Grid)
        self.assertIsInstance(laid_out(LOW, HIGH, [plane(X, 1), plane((1, 1, 0), 3)] + walls(LOW, HIGH)), Mesh)

    def test_a_mesh_tells_what_a_grid_tells(self):
        planes = [plane(X, 1), plane(Z, 3), plane(Y, 2), plane(X, 3), plane(Y, 9), plane(Z, -1)] + walls(LOW, HIGH)
        grid, mesh = Grid(planes), Mesh(len(planes), arrange(planes, LOW, HIGH))
        self.assertEqual(grid.all_cells(), mesh.all_cells())
        for inside in ([], [plane(X, 1)], [plane(X, 1), plane(Y, 2)], [plane(Z, 3), plane(X, 3)]):
            found = []
            for places in (grid, mesh):
                there = places.whole
                for wall in inside + [plane(X, 0), plane(Y, 0), plane(Z, 0)]:
                    there &= places.above[planes.index(wall)]
                for wall in [plane(X, 4), plane(Y, 4), plane(Z, 4)]:
                    there &= ~places.above[planes.index(wall)]
                found.append([row[:3] for row in places.flats(there)])
            self.assertEqual(*found)
        for _, there in grid.all_cells():
            self.assertEqual([grid.planes_through(point) for point in there], [mesh.planes_through(point) for point in there])

    def test_planes_through_vertices_of_a_mesh(self):
        planes = [plane((1, 1, 0), 4), plane(X, 2), plane((0, 1, 1), 3)] + walls(LOW, HIGH)
        mesh = Mesh(len(planes), arrange(planes, LOW, HIGH))
        for signs, there in mesh.all_cells():
            if len(there) == 1:
                self.assertEqual(bits_of(mesh.planes_through(there[0])), [k for k, sign in enumerate(signs) if sign == 0])


class Cuts(unittest.TestCase):

    def test_a_plane_takes_its_index(self):
        room = walls(LOW, HIGH)
        for place in (0, 3, 6):
            found = divided_cells(arrange(room, LOW, HIGH), place, plane((1, 1, 0), 4))
            planes = room[:place] + [plane((1, 1, 0), 4)] + room[place:]
            wanted = arrange(planes[:0] + [plane((1, 1, 0), 4)] + room, LOW, HIGH)
            moved = sorted((signs[1:1 + place] + signs[:1] + signs[1 + place:], sorted(there)) for signs, there in wanted)
            self.assertEqual(sorted((signs, sorted(there)) for signs, there in found), moved)

    def test_what_is_only_touched_is_not_cut(self):
        room = arrange(walls(LOW, HIGH), LOW, HIGH)
        for wall in (plane((1, 1, 1), 0), plane((1, 1, 0), 8), plane((1, -1, 0), 9)):
            found = divided_cells(room, 0, wall)
            self.assertEqual([(signs[1:], there) for signs, there in found], room)
            for signs, there in found:
                self.assertEqual(signs[0], max([sides([wall], point)[0] for point in there], key=abs))


class Shells(unittest.TestCase):

    def test_flats_of_shells_are_those_of_bodies(self):
        chance = random.Random(46)
        for body in bodies() + [random_body(chance) for _ in range(10)]:
            shell = Shell(body.low, body.high, body.planes, body.tools)
            self.assertEqual(shell.flats(), body.flats())
            self.assertEqual(shell.all_cells(), body.cells)
            wanted = []
            for signs, there, place, below, above in body.flat_cells():
                if body.holds(below) != body.holds(above):
                    wanted.append((signs, there, place, body.side(below, above, place), body.holds(below)))
            self.assertEqual(body.flats(), wanted)

    def test_several_sides_of_the_maker_on_one_plane(self):
        names = ["a", "b", "c"]
        for test, wanted in [(("both", ("side", 1), ("side", 2)), "c"), (("either", ("side", 2), ("side", 1)), "b"),
                             (("either", ("side", 0), ("both", ("side", 1), ("side", 2))), "a"), (("side", 2), "c")]:
            sides_of = [((1, (), name), X, worth(2), True) for name in names]
            body = body_of((1, ("add", sides_of, test)), low=LOW, high=HIGH)
            self.assertEqual([flat[3] for flat in body.flats() if flat[2] == 0], [(1, (), wanted)])

    def test_planes_of_the_room(self):
        body = body_of(block(1, "add", (0, 4), (0, 4), (0, 4)), half(2, "cut", X, worth(4)), low=LOW, high=HIGH)
        self.assertEqual(sorted(flat[3] for flat in body.flats()), [(1, (), name) for name in ("a", "b", "c", "d", "high", "low")])
        body = body_of(half(1, "add", X, worth(2)), low=LOW, high=HIGH)
        self.assertEqual(sorted(flat[3] for flat in body.flats()), [
            (0, (), "xh"), (0, (), "yh"), (0, (), "yl"), (0, (), "zh"), (0, (), "zl"), (1, (), "half")])

    def test_flats_that_are_handed_out_can_be_changed(self):
        body = body_of(half(1, "add", X, worth(2)), low=LOW, high=HIGH)
        self.assertIsInstance(body, Body)
        first = body.flats()
        first[0][1].clear()
        self.assertNotEqual(body.flats(), first)


class Segments(unittest.TestCase):

    def test_segments_and_sides(self):
        for body in bodies():
            flats = body.flats()
            found = boundary_segments(body, flats)
            wanted = []
            for signs, there in reference.segments(body):
                direction = reference.direction_of(body, signs)
                at_it = [flat for flat in flats if reference.in_closure(signs, flat[0])]
                if at_it:
                    rows = sorted((flat, reference.line_side(body, flat, direction, there[0])) for flat in at_it)
                    wanted.append((signs, there, direction, rows))
            self.assertEqual([(*row[:3], sorted(row[3])) for row in found], wanted)

    def test_flat_places_that_are_not_asked_for_are_left_out(self):
        body = body_of(block(1, "add", (1, 3), (1, 3), (1, 3)), low=LOW, high=HIGH)
        top = [flat for flat in body.flats() if flat[3] == (1, (), "high")]
        found = boundary_segments(body, top)
        self.assertEqual(len(found), 4)
        self.assertTrue(all([flat for flat, _ in row[3]] == top for row in found))


if __name__ == "__main__":
    unittest.main()
