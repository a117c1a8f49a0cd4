"""Points 60, 61 and 62: lumps, and where points are."""

import random
import unittest
from fractions import Fraction

import reference
from solids import at, block, body_of, half, origins, plain_block, slotted_block
from test_bodies import bodies, random_body
from truepart.lumps import lumps, state_at
from truepart.measures import volume
from truepart.numbers import total

OUTSIDE = ("outside", [])
INSIDE = ("inside", [])


def on(text):
    return ("on", origins(text))


def whole(number):
    return (number, 1)


class Lumps(unittest.TestCase):

    def test_none(self):
        self.assertEqual(lumps(body_of()), [])
        self.assertEqual(lumps(body_of(block(1, "cut", (2, 8), (3, 7), (1, 4)))), [])

    def test_one(self):
        self.assertEqual(lumps(plain_block()), [(whole(72), at(2, 3, 1))])
        # The cells of a body that planes part without parting the body.
        self.assertEqual(lumps(slotted_block()), [(whole(60), at(2, 3, 1))])

    def test_several_in_the_order_of_their_corners(self):
        body = body_of(block(1, "add", (5, 8), (3, 7), (1, 4)), block(2, "add", (1, 3), (8, 9), (1, 2)),
                       block(3, "add", (1, 3), (3, 4), (6, 9)), block(4, "add", (1, 3), (3, 4), (4, 5)))
        self.assertEqual(lumps(body), [(whole(2), at(1, 3, 4)), (whole(6), at(1, 3, 6)), (whole(2), at(1, 8, 1)),
                                       (whole(36), at(5, 3, 1))])

    def test_a_slot_all_through(self):
        body = body_of(block(1, "add", (2, 8), (3, 7), (1, 4)), block(2, "cut", (1, 9), (4, 5), (0, 5)))
        self.assertEqual(lumps(body), [(whole(18), at(2, 3, 1)), (whole(36), at(2, 5, 1))])

    def test_an_edge_or_a_point_alone_does_not_hang_together(self):
        body = body_of(block(1, "add", (2, 4), (2, 4), (1, 3)), block(2, "add", (4, 6), (4, 6), (1, 3)),
                       block(3, "add", (6, 7), (6, 7), (3, 9)))
        self.assertEqual(lumps(body), [(whole(8), at(2, 2, 1)), (whole(8), at(4, 4, 1)), (whole(6), at(6, 6, 3))])

    def test_blocks_that_have_a_face_in_common(self):
        body = body_of(block(1, "add", (2, 4), (2, 4), (1, 3)), block(2, "add", (4, 6), (3, 9), (0, 2)))
        self.assertEqual(lumps(body), [(whole(8 + 24), at(2, 2, 1))])

    def test_the_same_corner(self):
        # Two wedges that meet at the corner (0, 0, 0) and along a line alone; the greater one is told last.
        wedges = [half(1, "add", (1, -1, 0), ((0, 1), ())), half(2, "cut", (3, -4, 0), ((0, 1), ())),
                  half(3, "add", (-2, 1, 0), ((0, 1), ()))]
        found = lumps(body_of(*wedges))
        # Between y = 3/4 x and y = x, and above y = 2 x.
        self.assertEqual(found, [(whole(125), at(0, 0, 0)), (whole(250), at(0, 0, 0))])
        wedges[1] = half(2, "cut", (1, -4, 0), ((0, 1), ()))
        self.assertEqual(lumps(body_of(*wedges)), [(whole(250), at(0, 0, 0)), (whole(375), at(0, 0, 0))])

    def test_a_hole_inside(self):
        body = body_of(block(1, "add", (1, 9), (1, 9), (1, 9)), block(2, "cut", (2, 8), (2, 8), (2, 8)),
                       block(3, "add", (4, 5), (4, 5), (4, 5)))
        self.assertEqual(lumps(body), [(whole(512 - 216), at(1, 1, 1)), (whole(1), at(4, 4, 4))])

    def test_random_bodies_as_the_document_says(self):
        chance = random.Random(60)
        for body in bodies() + [random_body(chance) for _ in range(6)]:
            found = lumps(body)
            self.assertEqual(found, reference.lumps(body))
            self.assertEqual(total([lump[0] for lump in found]), volume(body))


class StateAt(unittest.TestCase):

    def test_inside_and_outside(self):
        body = slotted_block()
        self.assertEqual(state_at(body, at(3, 6, 2)), INSIDE)
        self.assertEqual(state_at(body, at((5, 2), (7, 2), (3, 2))), INSIDE)
        self.assertEqual(state_at(body, at(3, (9, 2), 3)), OUTSIDE)
        self.assertEqual(state_at(body, at(9, 9, 9)), OUTSIDE)

    def test_inside_on_planes_that_do_not_part_it(self):
        # On the planes of the slot, below it.
        body = slotted_block()
        for point in (at(3, 4, (3, 2)), at(3, 5, (3, 2)), at(3, 6, 2)):
            self.assertEqual(state_at(body, point), INSIDE)

    def test_on_a_face_an_edge_a_corner(self):
        body = slotted_block()
        self.assertEqual(state_at(body, at(3, 3, 2)), on("1.a"))
        self.assertEqual(state_at(body, at(3, (9, 2), 2)), on("2.low"))
        self.assertEqual(state_at(body, at(3, 3, 1)), on("1.a 1.low"))
        self.assertEqual(state_at(body, at(3, 4, 4)), on("1.high 2.a"))
        self.assertEqual(state_at(body, at(2, 3, 4)), on("1.a 1.d 1.high"))
        self.assertEqual(state_at(body, at(8, 5, 2)), on("1.b 2.c 2.low"))

    def test_origins_come_once(self):
        # The plane of a slot parts the bottom into flat places of one origin.
        self.assertEqual(state_at(slotted_block(), at(3, 4, 1)), on("1.low"))

    def test_sides_of_the_room(self):
        body = body_of(half(1, "add", (0, 0, -1), ((-4, 1), ())))
        self.assertEqual(state_at(body, at(5, 5, 0)), on("0.zl"))
        self.assertEqual(state_at(body, at(0, 10, 0)), on("0.xl 0.yh 0.zl"))
        self.assertEqual(state_at(body, at(0, 5, 4)), on("0.xl 1.half"))
        self.assertEqual(state_at(body, at(0, 5, 5)), OUTSIDE)
        self.assertEqual(state_at(body, at(5, 5, 10)), OUTSIDE)

    def test_beyond_the_room(self):
        body = body_of(half(1, "add", (0, 0, -1), ((-4, 1), ())))
        for point in (at(5, 5, -1), at(11, 5, 2), at((-1, 9), 0, 0), at(5, 99, 4), at(5, 5, 11)):
            self.assertEqual(state_at(body, point), OUTSIDE)

    def test_where_lumps_meet(self):
        body = body_of(block(1, "add", (2, 4), (2, 4), (1, 3)), block(2, "add", (4, 6), (4, 6), (1, 3)))
        self.assertEqual(state_at(body, at(4, 4, 2)), on("1.b 1.c 2.a 2.d"))

    def test_nothing(self):
        self.assertEqual(state_at(body_of(), at(5, 5, 5)), OUTSIDE)
        self.assertEqual(state_at(body_of(), at(0, 0, 0)), OUTSIDE)

    def test_random_points(self):
        chance = random.Random(62)
        for _ in range(6):
            body = random_body(chance)
            for _ in range(40):
                point = at(*[(chance.randint(-3, 33), 3) for _ in range(3)])
                point = tuple(reference.pair(reference.exact(part)) for part in point)
                state, told = state_at(body, point)
                self.assertEqual((state, told), wanted_state(body, point))


def wanted_state(body, point):
    """The state of a point by points close to it, in all directions, of which it knows the body."""
    x = reference.order(point)
    states = set()
    for signs, points in body.cells:
        # A full cell is at the point if the point is on no wrong side of its planes.
        if 0 not in signs:
            ahead = [reference.products(normal, point) - reference.exact(offset) for normal, offset in body.planes]
            if all(part * sign >= 0 for part, sign in zip(ahead, signs)):
                states.add(reference.in_body(body, reference.centre(points)))
    low, high = reference.order(body.low), reference.order(body.high)
    rim = any(part in (least, most) for part, least, most in zip(x, low, high))
    if states == {True, False} or (states == {True} and rim):
        return ("on", sorted({flat[3] for flat in body.flats() if lies_at(body, flat, point)}))
    return INSIDE if states == {True} else OUTSIDE


def lies_at(body, flat, point):
    """Whether a point is a mean of points of a flat place and its ends, as its products with the planes tell."""
    for normal, offset in body.planes:
        worths = [reference.products(normal, corner) for corner in flat[1]]
        if not min(worths) <= reference.products(normal, point) <= max(worths):
            return False
        least = reference.exact(offset)
        side = reference.products(normal, point) - least
        if (side > 0 and max(worths) <= least) or (side < 0 and min(worths) >= least):
            return False
    return isinstance(side, Fraction)


if __name__ == "__main__":
    unittest.main()
