"""Points 85 and 89: how two bodies stand in a room."""

import random
import unittest
from fractions import Fraction

import reference
from solids import HIGH, LOW, at, block, body_of, half, plain_block, slotted_block
from test_bodies import random_body
from truepart.cells import arrange, centre
from truepart.contact import contact
from truepart.numbers import fraction, minus, plus
from truepart.planes import along
from truepart.bodies import room_planes

NONE = at(0, 0, 0)
APART, TOUCH = ("apart", None), ("touch", None)


def clash(number, divisor=1):
    return ("clash", fraction(number, divisor))


def moved(point, step):
    return tuple(plus(a, b) for a, b in zip(point, step))


class Contact(unittest.TestCase):

    def assert_contact(self, expected, first, second, shift=NONE, other=NONE, low=LOW, high=HIGH):
        """The contact, also in the other order, and with all shifted."""
        self.assertEqual(contact(first, second, [shift, other], low, high), expected)
        self.assertEqual(contact(second, first, (other, shift), low, high), expected)
        step = at(-3, (5, 2), 7)
        self.assertEqual(contact(first, second, [moved(shift, step), moved(other, step)], moved(low, step), moved(high, step)),
                         expected)


class Blocks(Contact):
    """A block from (2, 3, 1) to (8, 7, 4), and another one from (0, 0, 0) to (1, 2, 3) that is shifted."""

    def setUp(self):
        self.block = plain_block()
        self.other = body_of(block(1, "add", (0, 1), (0, 2), (0, 3)))

    def test_apart(self):
        for shift in (NONE, at(9, 3, 1), at(8, 7, 5), at((81, 10), 3, 1), at(1, 1, (-21, 10))):
            self.assert_contact(APART, self.block, self.other, NONE, shift)

    def test_touch_by_a_face(self):
        for shift in (at(8, 3, 1), at(1, 3, 1), at(3, 1, 0), at(3, 4, 4), at(8, 6, 3), at(1, (13, 2), 1)):
            self.assert_contact(TOUCH, self.block, self.other, NONE, shift)

    def test_touch_by_an_edge(self):
        for shift in (at(8, 7, 1), at(1, 1, 2), at(8, 3, 4), at(3, 7, 4)):
            self.assert_contact(TOUCH, self.block, self.other, NONE, shift)

    def test_touch_by_a_corner(self):
        for shift in (at(8, 7, 4), at(1, 1, 4), at(1, 7, -2), at(8, 1, -2)):
            self.assert_contact(TOUCH, self.block, self.other, NONE, shift)

    def test_clash(self):
        for shift, volume in [(at(3, 4, 1), clash(6)), (at((15, 2), 4, 1), clash(3)), (at(3, 4, 2), clash(4)),
                              (at((15, 2), 6, 3), clash(1, 2)), (at((79, 10), (69, 10), (39, 10)), clash(1, 1000))]:
            self.assert_contact(volume, self.block, self.other, NONE, shift)

    def test_the_same_body(self):
        self.assert_contact(clash(72), self.block, self.block)
        self.assert_contact(clash(36), self.block, self.block, NONE, at(3, 0, 0))
        self.assert_contact(TOUCH, self.block, plain_block(), at(-2, 0, 0), at(4, 0, 0), at(-9, -9, -9), at(20, 20, 20))

    def test_nothing_touches_nothing(self):
        nothing = body_of()
        self.assert_contact(APART, self.block, nothing)
        self.assert_contact(APART, nothing, nothing)

    def test_bodies_stay_as_they_were(self):
        flats, cells = self.block.flats(), list(self.block.cells)
        contact(self.block, self.other, [NONE, at(3, 4, 1)], LOW, HIGH)
        self.assertEqual((self.block.flats(), self.block.cells), (flats, cells))
        self.assertEqual((self.block.low, self.block.high), (LOW, HIGH))


class Rooms(Contact):

    def test_what_is_outside_the_room_is_not_looked_at(self):
        body = plain_block()
        other = body_of(block(1, "add", (0, 1), (0, 2), (0, 3)))
        shift = at((15, 2), 4, 1)
        self.assert_contact(clash(3), body, other, NONE, shift)
        self.assert_contact(clash(3, 2), body, other, NONE, shift, LOW, at((31, 4), 10, 10))
        # Where they clash is not in the room, and there only one of them is.
        self.assert_contact(APART, body, other, NONE, shift, LOW, at((15, 2), 10, 10))
        self.assert_contact(APART, body, other, NONE, shift, LOW, at(7, 10, 10))
        self.assert_contact(APART, body, other, NONE, shift, at(9, 0, 0), HIGH)

    def test_closures_of_what_is_inside_the_room(self):
        body = plain_block()
        other = body_of(block(1, "add", (0, 1), (0, 2), (0, 3)))
        # They touch at x = 8, where the room ends, and the other one has nothing inside the room.
        self.assert_contact(APART, body, other, NONE, at(8, 3, 1), LOW, at(8, 10, 10))
        # They touch along an edge that lies on a side of the room, and both are inside.
        self.assert_contact(TOUCH, body, other, NONE, at(8, 3, 1), LOW, at(10, 4, 10))
        self.assert_contact(TOUCH, body, other, NONE, at(8, 5, 1), LOW, at(10, 6, 10))
        self.assert_contact(APART, body, other, NONE, at(8, 5, 1), LOW, at(10, 5, 10))

    def test_touching_on_the_boundary_of_the_room(self):
        # Both end at z = 4 of the room; they have only points with y = 7 in common.
        first = body_of(block(1, "add", (2, 4), (3, 7), (1, 4)))
        second = body_of(block(1, "add", (4, 6), (7, 9), (1, 9)))
        self.assert_contact(TOUCH, first, second, low=LOW, high=at(10, 10, 2))
        self.assert_contact(APART, first, second, low=LOW, high=at(10, 7, 10))

    def test_parts_end_at_the_sides_of_their_own_rooms(self):
        # A half that fills its room from x = 6 on.
        first = body_of(half(1, "add", (1, 0, 0), ((6, 1), ())))
        other = body_of(block(1, "add", (0, 1), (0, 2), (0, 3)))
        wide = (at(-20, -20, -20), at(30, 30, 30))
        self.assert_contact(TOUCH, first, other, NONE, at(10, 4, 4), *wide)
        self.assert_contact(APART, first, other, NONE, at((21, 2), 4, 4), *wide)
        self.assert_contact(clash(3), first, other, NONE, at((19, 2), 4, 4), *wide)
        # The room of the first part is shifted with it.
        self.assert_contact(clash(6), first, other, at(3, 0, 0), at(10, 4, 4), *wide)
        self.assert_contact(TOUCH, first, other, at(3, 0, 0), at(13, 4, 4), *wide)
        self.assert_contact(TOUCH, first, other, at(3, 5, 0), at(10, 3, 4), *wide)
        self.assert_contact(TOUCH, first, other, at(3, 0, 0), at(12, 10, 10), *wide)
        self.assert_contact(APART, first, other, at(-1, 0, 0), at(10, 4, 4), *wide)

    def test_rooms_of_different_sizes(self):
        first = body_of(half(1, "add", (1, 0, 0), ((6, 1), ())))
        second = body_of(half(1, "add", (0, 1, 0), ((2, 1), ())), low=at(0, 0, 0), high=at(7, 7, 7))
        self.assert_contact(clash(1 * 5 * 7), first, second, low=at(-9, -9, -9), high=at(20, 20, 20))
        self.assert_contact(TOUCH, first, second, NONE, at(3, 8, 0), low=at(-9, -9, -9), high=at(20, 20, 20))


class Shapes(Contact):

    def test_a_key_in_a_slot(self):
        slotted = slotted_block()
        key = body_of(block(1, "add", (0, 6), (0, 1), (0, 2)))
        self.assert_contact(TOUCH, slotted, key, NONE, at(2, 4, 2))
        self.assert_contact(TOUCH, slotted, key, NONE, at(2, 4, 3))
        self.assert_contact(clash(6), slotted, key, NONE, at(2, 4, 1))
        self.assert_contact(clash(6), slotted, key, NONE, at(2, (9, 2), 2))
        thin = body_of(block(1, "add", (0, 6), (0, "1/2"), (0, 2)))
        self.assert_contact(TOUCH, slotted, thin, NONE, at(2, 4, 3))
        self.assert_contact(APART, slotted, thin, NONE, at(2, (17, 4), 3))

    def test_slopes(self):
        wedge = body_of(block(1, "add", (0, 4), (0, 4), (0, 4)), half(2, "keep", (-1, 0, -1), ((-4, 1), ())))
        upper = body_of(block(1, "add", (0, 4), (0, 4), (0, 4)), half(2, "keep", (1, 0, 1), ((4, 1), ())))
        self.assert_contact(TOUCH, wedge, upper)
        self.assert_contact(APART, wedge, upper, NONE, at((1, 9), 0, 0))
        self.assert_contact(clash(12), wedge, upper, NONE, at(-1, 0, 0))

    def test_closures_that_meet_where_neither_has_a_corner(self):
        # Two prisms with edges that cross.
        roof = body_of(block(1, "add", (1, 9), (0, 10), (1, 5)), half(2, "cut", (1, 0, 1), ((10, 1), ())),
                       half(3, "cut", (-1, 0, 1), ((0, 1), ())))
        keel = body_of(half(1, "add", (0, 1, 1), ((10, 1), ())), half(2, "keep", (0, -1, 1), ((0, 1), ())))
        self.assert_contact(TOUCH, roof, keel)
        self.assert_contact(APART, roof, keel, NONE, at(0, 0, (1, 9)))
        self.assertEqual(contact(roof, keel, [at(0, 0, (1, 2)), NONE], LOW, HIGH)[0], "clash")

    def test_random_bodies(self):
        chance = random.Random(89)
        seen = set()
        for _ in range(50):
            first, second = random_body(chance, 3), random_body(chance, 3)
            shifts = [at(*[chance.choice((-2, -2, 0, 1, 2, 2)) for _ in range(3)]) for _ in range(2)]
            low = at(*[chance.randint(-3, 1) for _ in range(3)])
            high = moved(low, at(*[chance.randint(3, 8) for _ in range(3)]))
            found = contact(first, second, shifts, low, high)
            self.assertEqual(found, wanted(first, second, shifts, low, high))
            seen.add(found[0])
        self.assertEqual(seen, {"clash", "touch", "apart"})


def wanted(first, second, shifts, low, high):
    """The contact by the middles of the cells of all planes, their volumes by pyramids."""
    planes = [(normal, plus(offset, along(normal, shift)))
              for body, shift in zip((first, second), shifts) for normal, offset in body.planes]
    room = room_planes(low, high)
    cells = [cell for cell in arrange([plane for plane in dict.fromkeys(planes) if plane not in room] + room, low, high)
             if 0 not in cell[0]]
    inside = []
    for body, shift in zip((first, second), shifts):
        back = [tuple(minus(a, b) for a, b in zip(centre(points), shift)) for _, points in cells]
        inside.append([cell for cell, point in zip(cells, back) if reference.in_body(body, point)])
    both = [cell for cell in inside[0] if cell in inside[1]]
    if both:
        whole = sum((reference.solid_volume(points) for _, points in both), Fraction(0))
        return ("clash", reference.pair(whole))
    corners = [{point for _, points in part for point in points} for part in inside]
    return TOUCH if corners[0] & corners[1] else APART


if __name__ == "__main__":
    unittest.main()
