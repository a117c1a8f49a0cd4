"""Points 75 to 79: ways, walls, forms, events and stages."""

import random
import unittest
from fractions import Fraction

from parts import BLOCK, SLOT, declared, document, inserted
from solids import origins, worth
from truepart.affine import value
from truepart.circuits import circuits, form, vanishes
from truepart.edits import apply
from truepart.errors import Beyond, Stuck, Unknown
from truepart.ways import at_place, events, form_values, root, sample, stage_at, stages, walls_at, way_to

X, Y, Z = (1, 0, 0), (0, 1, 0), (0, 0, 1)
ZERO, ONE = (0, 1), (1, 1)


def cut(expression, direction="(1, 0, 0)", op="cut"):
    """A half that stands at an expression of x."""
    return f'{op} half {direction} at ("{expression}", "0", "0");'


def moving(*texts, start="1", low="-20", high="50"):
    """A document with the parameter w and features."""
    return document(declared("w", start, low, high), *[inserted(text) for text in texts])


def to(found, *goal):
    """The way to a value of w."""
    return way_to(found, [("w", goal if len(goal) == 2 else (goal[0], 1))])


def wall(name, normal, *parts):
    return (origins(name)[0], normal, worth(*parts))


def fractions(*parts):
    return [part if isinstance(part, tuple) else (part, 1) for part in parts]


class Ways(unittest.TestCase):

    def setUp(self):
        self.document = document(declared("w", "2"), declared("h", "3/2", "1", "4"), declared("x", "0", "-1", "1"))

    def test_way_to(self):
        present = fractions(2, (3, 2), 0)
        for goals, wanted in [([], present), ([("h", (4, 1))], fractions(2, 4, 0)),
                              ([("x", (-1, 1)), ("w", (1, 3))], fractions((1, 3), (3, 2), -1))]:
            start, goal = way_to(self.document, goals)
            self.assertEqual((start, goal), (present, wanted))
            start.clear()
            goal.clear()
            self.assertEqual(self.document.setting(), present)

    def test_errors(self):
        for error, goals in [
                (Unknown, [("y", (1, 1))]), (Unknown, [("w", (1, 1)), ("h", (1, 1)), ("w", (1, 1))]),
                (Beyond, [("h", (5, 1))]), (Beyond, [("h", (9, 10))]), (Beyond, [("w", (1, 1)), ("x", (101, 100))]),
                # Of two pairs the first one counts; what comes twice is unknown whatever its value.
                (Unknown, [("y", (1, 1)), ("h", (5, 1))]), (Beyond, [("h", (5, 1)), ("y", (1, 1))]),
                (Unknown, [("w", (1, 1)), ("w", (99, 1))]), (Beyond, [("w", (99, 1)), ("w", (1, 1))])]:
            with self.assertRaises(error) as caught:
                way_to(self.document, goals)
            self.assertIs(caught.exception.__class__, error)

    def test_bounds_are_within(self):
        self.assertEqual(way_to(self.document, [("h", (1, 1)), ("x", (1, 1))])[1], fractions(2, 1, 1))

    def test_places(self):
        way = (fractions(2, 4, 0), fractions(5, 1, 0))
        for place, setting in [((0, 1), (2, 4, 0)), ((1, 1), (5, 1, 0)), ((1, 3), (3, 3, 0)), ((1, 2), ((7, 2), (5, 2), 0))]:
            self.assertEqual(at_place(way, place), fractions(*setting))
        self.assertEqual(at_place(([], []), (1, 2)), [])
        self.assertEqual(way, (fractions(2, 4, 0), fractions(5, 1, 0)))

    def test_sample(self):
        self.assertEqual(sample(((1, 3), (1, 3))), (1, 3))
        self.assertEqual(sample(((0, 1), (1, 3))), (1, 6))


class Walls(unittest.TestCase):

    ROOM = [wall("0.xl", X, 0, 0), wall("0.xh", X, 10, 0), wall("0.yl", Y, 0, 0), wall("0.yh", Y, 10, 0),
            wall("0.zl", Z, 0, 0), wall("0.zh", Z, 10, 0)]

    def test_the_room_alone(self):
        self.assertEqual(walls_at(moving(), fractions(1)), self.ROOM)

    def test_in_the_order_of_features_tools_and_sides(self):
        found = moving(cut("w"), BLOCK, 'copy 1 shift ("2*w", "0", "0") times 2;', cut("3", "(-2, 0, 4)"))
        self.assertEqual(walls_at(found, fractions(7)), [
            wall("1.half", X, 0, 1), wall("2.a", Y, 3, 0), wall("2.b", X, 8, 0), wall("2.c", Y, 7, 0), wall("2.d", X, 2, 0),
            wall("2.low", Z, 1, 0), wall("2.high", Z, 4, 0), wall("3.1.half", X, 0, 3), wall("3.2.half", X, 0, 5),
            wall("4.half", (1, 0, -2), 3, 0)] + self.ROOM)
        moved, _ = apply(found, ("move", 2, 0))
        self.assertEqual([row[0] for row in walls_at(moved, fractions(7))][:7], origins("2.a 2.b 2.c 2.d 2.low 2.high 1.half"))

    def test_features_that_wait_or_are_suppressed_have_none(self):
        found = moving(cut("w", op="add"), 'cut half (1, 0, 0) at "face 1.half" plus ("1", "0", "0");', BLOCK)
        found, _ = apply(found, ("suppress", 3, True))
        self.assertEqual(walls_at(found, fractions(4)), [wall("1.half", X, 0, 1), wall("2.half", X, 1, 1)] + self.ROOM)
        # At w = 10 nothing is in the room, and there is no face.
        self.assertEqual(walls_at(found, fractions(10)), [wall("1.half", X, 0, 1)] + self.ROOM)

    def test_walls_on_one_plane(self):
        found = moving(cut("w"), cut("w"), cut("3"), cut("0"))
        self.assertEqual(walls_at(found, fractions(3))[:4], [wall("1.half", X, 0, 1), wall("2.half", X, 0, 1),
                                                             wall("3.half", X, 3, 0), wall("4.half", X, 0, 0)])

    def test_without_parameters(self):
        found = document(inserted(cut("3")))
        self.assertEqual(walls_at(found, [])[0], wall("1.half", X, 3))
        self.assertEqual(walls_at(found, [])[1], wall("0.xl", X, 0))


class Forms(unittest.TestCase):

    WALLS = [wall("1.a", X, 1, 2), wall("1.b", (1, 0, 1), 0, 1), wall("1.c", X, 4, -1), wall("1.d", Z, 3, 0), wall("1.e", Y, 0, 5)]

    def test_form_values(self):
        self.assertEqual(form_values(self.WALLS), [
            ((0, 1, 3), worth(1 - 0 + 3, 2 - 1)), ((0, 2), worth(-3, 3)), ((1, 2, 3), worth(0 - 4 - 3, 1 + 1))])
        self.assertEqual(form_values([]), [])
        self.assertEqual(form_values([wall("1.a", X, 1), wall("1.b", X, 4)]), [((0, 1), worth(-3))])

    def test_they_are_the_forms_of_the_circuits(self):
        chance = random.Random(77)
        for _ in range(10):
            rows = random_walls(chance)
            found = form_values(rows)
            wanted = circuits([row[1] for row in rows])
            self.assertEqual([places for places, _ in found], [places for places, _ in wanted])
            for circuit, (_, told) in zip(wanted, found):
                self.assertTrue(vanishes(circuit, [row[1] for row in rows]))
                for _ in range(2):
                    setting = fractions(chance.randint(-9, 9), (chance.randint(0, 8) * 2 + 1, 2))
                    self.assertEqual(value(told, setting), form(circuit, [value(row[2], setting) for row in rows]))

    def test_root(self):
        way = (fractions(1, 5), fractions(3, 5))
        for told, wanted in [(worth(-2, 1, 0), (1, 2)), (worth(-1, 1, 0), (0, 1)), (worth(-3, 1, 0), (1, 1)),
                             (worth(-5, 1, 0), (2, 1)), (worth(0, 2, 0), (-1, 2)), (worth(5, 0, 1), None),
                             (worth(-5, 0, 1), None), (worth(0, 0, 0), None), (worth(-7, 1, 1), (1, 2))]:
            self.assertEqual(root(way, told), wanted)
        # A value can stand still though both parameters move.
        self.assertIsNone(root((fractions(0, 0), fractions(2, 1)), worth(-1, 1, -2)))
        self.assertIsNone(root(([], []), worth(3)))

    def test_events(self):
        # From w = 0 to w = 4: 1.a and 1.c meet at w = 1, 1.b comes to 1.c and 1.d at w = 7/2.
        self.assertEqual(events(self.WALLS, (fractions(0), fractions(4))), [(1, 4), (7, 8)])
        self.assertEqual(events(self.WALLS, (fractions(4), fractions(0))), [(1, 8), (3, 4)])
        self.assertEqual(events(self.WALLS, (fractions(1), fractions((7, 2)))), [])
        self.assertEqual(events(self.WALLS, (fractions(2), fractions(2))), [])
        self.assertEqual(events([], (fractions(2), fractions(3))), [])

    def test_events_come_once(self):
        rows = self.WALLS + self.WALLS + [wall("2.a", X, 1, 2)]
        self.assertEqual(events(rows, (fractions(0), fractions(4))), [(1, 4), (7, 8)])
        # Both walls come to x = 2 at the same place.
        rows = [wall("1.a", X, 0, 1), wall("1.b", X, -2, 2), wall("1.c", X, 2, 0)]
        self.assertEqual(events(rows, (fractions(0), fractions(4))), [(1, 2)])

    def test_they_are_the_roots_of_all_forms(self):
        chance = random.Random(78)
        for _ in range(30):
            rows = random_walls(chance)
            way = tuple(fractions(chance.randint(-4, 4), chance.randint(-4, 4)) for _ in range(2))
            roots = {root(way, told) for _, told in form_values(rows)} - {None}
            wanted = sorted(Fraction(*place) for place in roots if 0 < Fraction(*place) < 1)
            self.assertEqual(events(rows, way), [(place.numerator, place.denominator) for place in wanted])


def random_walls(chance):
    rows = []
    for k in range(chance.randint(2, 8)):
        normal = chance.choice([X, Y, Z, X, (1, 0, 1), (1, 1, 0), (1, -1, 2), (0, 1, 1)])
        rows.append(wall(f"{k}.a", normal, *[chance.randint(-2, 2) for _ in range(3)]))
    return rows


class Stages(unittest.TestCase):

    def told(self, found, way):
        """The places that part a way, of which all stages are made."""
        rows = stages(found, way)
        places = [low for low, high in rows if low == high]
        self.assertEqual((places[0], places[-1]), (ZERO, ONE))
        wanted = [(ZERO, ZERO)]
        for low, high in zip(places, places[1:]):
            wanted += [(low, high), (high, high)]
        self.assertEqual(rows, wanted)
        return places

    def test_without_events(self):
        found = moving(cut("w"))
        self.assertEqual(stages(found, to(found, 9)), [(ZERO, ZERO), (ZERO, ONE), (ONE, ONE)])
        self.assertEqual(stage_at(found, to(found, 9), (1, 7)), (ZERO, ONE))

    def test_a_way_that_stands_still(self):
        found = moving(cut("w"), BLOCK)
        self.assertEqual(stages(found, to(found, 1)), [(ZERO, ZERO), (ZERO, ONE), (ONE, ONE)])
        self.assertEqual(stages(document(), ([], [])), [(ZERO, ZERO), (ZERO, ONE), (ONE, ONE)])

    def test_events_part_a_way(self):
        found = moving(cut("w"), BLOCK)
        # From x = 1 to x = 11: the sides of the block are at 2 and 8, the room's at 10.
        self.assertEqual(self.told(found, to(found, 11)), [ZERO, (1, 10), (7, 10), (9, 10), ONE])
        self.assertEqual(self.told(found, to(found, 8)), [ZERO, (1, 7), ONE])

    def test_stage_at(self):
        found = moving(cut("w"), BLOCK)
        way = to(found, 11)
        for place, stage in [((1, 20), (ZERO, (1, 10))), ((1, 10), ((1, 10), (1, 10))), ((1, 9), ((1, 10), (7, 10))),
                             ((3, 4), ((7, 10), (9, 10))), ((9, 10), ((9, 10), (9, 10))), ((99, 100), ((9, 10), ONE))]:
            self.assertEqual(stage_at(found, way, place), stage)

    def test_features_that_are_not_always_made(self):
        # From w = 1 to w = 11; feature 2 is made up to w = 10, where feature 1 leaves the room, and stands at w - 3.
        found = moving(cut("w", op="add"), 'cut half (1, 0, 0) at "face 1.half" plus ("-3", "0", "0");')
        way = to(found, 11)
        self.assertEqual(stage_at(found, way, (1, 10)), (ZERO, (1, 5)))
        self.assertEqual(stage_at(found, way, (1, 2)), ((1, 5), (9, 10)))
        # Beyond it there is no wall that comes to x = 0 at 1/5.
        self.assertEqual(stage_at(found, way, (19, 20)), ((9, 10), ONE))
        self.assertEqual(self.told(found, way), [ZERO, (1, 5), (9, 10), ONE])

    def test_a_stage_is_told_from_the_place_on_behind_which_it_begins(self):
        # From w = 14 to w = 2: at the place 1/3 feature 1 comes into the room, and feature 2 is made, but not before.
        found = moving(cut("w", op="add"), 'cut half (1, 0, 0) at "face 1.half" plus ("1", "0", "0");', start="14")
        self.assertEqual(self.told(found, to(found, 2)), [ZERO, (1, 3), (5, 12), ONE])

    def test_looking_for_the_stage_behind_a_place(self):
        # What is 2 apart or nearer comes only when the bound has been halved often.
        found = moving(cut("1001/1000*w"), cut("1/1000 + w"), cut("w"))
        self.assertEqual(self.told(found, to(found, 9))[-1], ONE)
        near = moving(cut("w + 9"), cut("2*w + 8"), cut("500*w - 490 + 1/3"), start="1")
        way = to(near, 2)
        told = self.told(near, way)
        self.assertEqual(told, [ZERO] + events(walls_at(near, fractions(1)), way) + [ONE])

    def test_more_than_forty_looks(self):
        # Walls at 2 ** (7 * i) * w pass walls at 2 ** j, so that there is an event at each 1/2, 1/4, 1/8 and so on.
        passing = row_of_lines([f"{2 ** (7 * k)}*w" for k in range(1, 6)])
        standing = row_of_lines([2 ** k for k in range(6)])
        found = moving(passing, standing, cut("64"), start="0")
        way = to(found, 1)
        self.assertLess({(1, 2 ** k) for k in range(1, 36)}, set(events(walls_at(found, fractions(0)), way)))
        with self.assertRaises(Stuck):
            stages(found, way)

    def test_more_than_forty_stages(self):
        # Each of the walls 1.b to 1.f comes to a number of sides.
        rows = ["w", "1/2*w", "1/3*w + 1", "1/5*w + 7", "2*w - 4"]
        found = moving(*[cut(text) for text in rows], start="1")
        way = to(found, 20)
        many = len(events(walls_at(found, fractions(1)), way))
        self.assertEqual(len(stages(found, way)), 2 * many + 3)
        more = moving(*[cut(text) for text in rows + ["5/2*w - 7", "7/3*w - 11"]], BLOCK, start="1")
        self.assertGreater(2 * len(events(walls_at(more, fractions(1)), to(more, 20))) + 3, 40)
        with self.assertRaises(Stuck):
            stages(more, to(more, 20))

    def test_the_bound_of_forty_stages(self):
        # A wall goes past so many others.
        rows = [row_of_lines([f"{k}/13" for k in range(first, first + 6)]) for first in (1, 7, 13)]
        found = moving(cut("w"), *rows, start="0")
        self.assertEqual(len(stages(found, to(found, 10))), 2 * 18 + 3)
        more = moving(cut("w"), *rows, cut("5"), start="0")
        self.assertEqual(len(events(walls_at(more, fractions(0)), to(more, 10))), 19)
        with self.assertRaises(Stuck):
            stages(more, to(more, 10))
        self.assertEqual(len(stages(more, to(more, 5))), 2 * 18 + 3)


def row_of_lines(expressions):
    """A sketch of parallel lines, each at an expression of x."""
    lines = "".join(f' line {name} (0, 1) through "{text}" "0";' for name, text in zip("abcdef", expressions))
    return f'cut at ("0", "0", "0") u (1, 0, 0) v (0, 1, 0) w (0, 0, 1) {{{lines} }} area left a; from "1" to "2";'


if __name__ == "__main__":
    unittest.main()
