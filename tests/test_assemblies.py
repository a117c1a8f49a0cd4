"""Points 85 to 89: assemblies."""

import unittest

from helpers import FaultCase
from solids import HIGH, LOW, at, block, body_of, half, plain_block, slotted_block
from truepart.assemblies import Assembly
from truepart.contact import contact
from truepart.errors import Beyond, Full, Taken, TextFault, Unknown, Unplaced

NONE = at(0, 0, 0)


def small():
    """A block from (0, 0, 0) to (1, 2, 3)."""
    return body_of(block(1, "add", (0, 1), (0, 2), (0, 3)))


def tilted():
    """A block whose face 2.half is x + z = 4, from (2, 3, 1) on."""
    return body_of(block(1, "add", (2, 8), (3, 7), (1, 4)), half(2, "keep", (-1, 0, -1), ((-4, 1), ())))


def assembly(*names):
    """Parts: p is the plain block, all others are small blocks."""
    found = Assembly(LOW, HIGH)
    for name in names:
        found.put_in(name, plain_block() if name == "p" else small())
    return found


def corners(found, first, second):
    """A meet of the low corners of two parts."""
    return found.meet(first, "corner 1.a 1.d 1.low", second, "corner 1.a 1.d 1.low")


class AssemblyCase(FaultCase):

    def refuse(self, error, call, *arguments, **more):
        with self.assertRaises(error) as caught:
            call(*arguments, **more)
        self.assertIs(caught.exception.__class__, error)


class Parts(AssemblyCase):

    def test_names(self):
        found = assembly()
        self.assertEqual(found.part_names(), [])
        self.assertIsNone(found.put_in("b", small()))
        found.put_in("a", small())
        found.put_in("", small())
        self.assertEqual(found.part_names(), ["b", "a", ""])
        found.part_names().clear()
        self.assertEqual(found.part_names(), ["b", "a", ""])

    def test_errors_in_their_order(self):
        found = assembly("a", "b", "c")
        self.refuse(Taken, found.put_in, "b", small())
        found.put_in("d", small())
        self.refuse(Taken, found.put_in, "b", small())
        self.refuse(Full, found.put_in, "e", small())
        self.assertEqual(found.part_names(), ["a", "b", "c", "d"])

    def test_assemblies_have_nothing_in_common(self):
        found, other = assembly("a"), assembly()
        other.put_in("b", small())
        self.assertEqual((found.part_names(), other.part_names()), (["a"], ["b"]))


class Mates(AssemblyCase):

    def test_numbers(self):
        found = assembly("p", "q", "r")
        self.assertEqual(found.flush("p", "plane 1.a", "q", "plane 1.a"), 1)
        self.assertEqual(corners(found, "q", "r"), 2)
        self.assertEqual(found.flush("r", "plane 1.a", "q", "plane 1.a", gap=(1, 2)), 3)
        self.assertIsNone(found.unmate(3))
        self.assertEqual(corners(found, "q", "r"), 4)
        found.unmate(1)
        self.assertEqual(corners(found, "q", "r"), 5)

    def test_unmate_what_is_not_there(self):
        found = assembly("p", "q")
        self.refuse(Unknown, found.unmate, 1)
        corners(found, "p", "q")
        found.unmate(1)
        self.refuse(Unknown, found.unmate, 1)
        self.refuse(Unknown, found.unmate, 0)

    def test_errors_in_their_order(self):
        found = assembly("p", "q")
        for _ in range(16):
            corners(found, "p", "q")
        for call in (found.flush, found.meet):
            self.assert_fault(1, 1, call, "x", "plane", "x", "plane")
            self.assert_fault(1, 1, call, "x", "plane 1.a", "x", "plane 1")
            for first, second in [("x", "y"), ("x", "x"), ("x", "p"), ("p", "x")]:
                self.refuse(Unknown, call, first, "plane 1.a", second, "plane 1.a")
            self.refuse(Beyond, call, "q", "plane 1.a", "q", "plane 1.a")
            self.refuse(Full, call, "q", "plane 1.a", "p", "plane 1.a")
        found.unmate(3)
        self.assertEqual(found.flush("q", "plane 1.a", "p", "plane 1.a"), 17)
        self.refuse(Full, found.meet, "q", "plane 1.a", "p", "plane 1.a")

    def test_no_number_is_given_by_what_is_refused(self):
        found = assembly("p", "q")
        self.refuse(TextFault, found.meet, "p", "corner", "q", "corner")
        self.refuse(Beyond, found.meet, "p", "corner 1.a 1.b 1.c", "p", "plane 1.a")
        self.assertEqual(corners(found, "p", "q"), 1)
        self.assertEqual(found.places()[0], "placed")


class Placed(AssemblyCase):

    def test_few_parts(self):
        self.assertEqual(assembly().places(), ("placed", []))
        self.assertEqual(assembly("p").places(), ("placed", [NONE]))
        self.assertEqual(assembly("p", "q").places(), ("free", ["q"]))

    def test_meet(self):
        found = assembly("p", "q")
        corners(found, "p", "q")
        self.assertEqual(found.places(), ("placed", [NONE, at(2, 3, 1)]))
        other = assembly("p", "q")
        other.meet("q", "corner 1.b 1.c 1.high", "p", "corner 1.a 1.d 1.low")
        self.assertEqual(other.places(), ("placed", [NONE, at(1, 1, -2)]))

    def test_flush(self):
        found = assembly("p", "q")
        found.flush("p", "plane 1.b", "q", "face 1.d")
        self.assertEqual(found.places(), ("free", ["q"]))
        found.flush("q", "face 1.a down", "p", "plane 1.c", gap=(1, 2))
        found.flush("p", "face 1.high by 1.a 1/1", "q", "plane 1.low", gap=(-1, 3))
        # x: 8 = 0 + x. y: 0 + y = 7 + 1/2. z: 4 = 0 + z - 1/3.
        self.assertEqual(found.places(), ("placed", [NONE, at(8, (15, 2), (13, 3))]))

    def test_the_gap_of_a_plane_is_told_by_its_offset(self):
        found = Assembly(LOW, HIGH)
        found.put_in("t", tilted())
        found.put_in("u", tilted())
        found.flush("u", "plane 2.half", "t", "plane 2.half", gap=(3, 1))
        found.flush("u", "plane 1.d", "t", "plane 1.d")
        found.flush("u", "plane 1.a", "t", "plane 1.a")
        self.assertEqual(found.places(), ("placed", [NONE, at(0, 0, 3)]))

    def test_any_order(self):
        rows = [("p", "plane 1.b", "q", "plane 1.d"), ("q", "plane 1.a", "r", "plane 1.c"), ("r", "plane 1.low", "p", "plane 1.high")]
        for order in [(0, 1, 2), (2, 1, 0), (1, 2, 0)]:
            found = assembly("p", "q", "r")
            for k in order:
                found.flush(*rows[k])
            self.assertEqual(found.places(), ("free", ["q", "r"]))
            corners(found, "r", "q")
            self.assertEqual(found.places()[0], "conflict")
            found.unmate(4)
            found.meet("r", "corner 1.c 1.d 1.low", "q", "corner 1.a 1.d 1.low")
            # x = 8 and z = 4 of both, but y of neither.
            self.assertEqual(found.places(), ("free", ["q", "r"]))
            found.flush("p", "plane 1.a", "q", "plane 1.a")
            self.assertEqual(found.places(), ("placed", [NONE, at(8, 3, 4), at(8, 1, 4)]))

    def test_parts_that_hang_on_one_another(self):
        found = assembly("p", "q", "r", "s")
        corners(found, "s", "r")
        corners(found, "r", "q")
        self.assertEqual(found.places(), ("free", ["q", "r", "s"]))
        found.meet("q", "corner 1.a 1.b 1.low", "p", "corner 1.a 1.b 1.low")
        self.assertEqual(found.places(), ("placed", [NONE, at(7, 3, 1), at(7, 3, 1), at(7, 3, 1)]))

    def test_free_parts_in_the_order_in_which_they_were_put_in(self):
        found = assembly("p", "z", "b", "a")
        corners(found, "p", "b")
        self.assertEqual(found.places(), ("free", ["z", "a"]))
        found.flush("a", "plane 1.a", "z", "plane 1.a")
        self.assertEqual(found.places(), ("free", ["z", "a"]))
        corners(found, "p", "a")
        self.assertEqual(found.places(), ("free", ["z"]))

    def test_the_first_part_is_not_shifted(self):
        found = assembly("q", "p")
        corners(found, "p", "q")
        self.assertEqual(found.places(), ("placed", [NONE, at(-2, -3, -1)]))

    def test_answers_are_new(self):
        found = assembly("p", "q")
        corners(found, "p", "q")
        found.places()[1].clear()
        self.assertEqual(found.places(), ("placed", [NONE, at(2, 3, 1)]))


class Waits(AssemblyCase):

    def test_mates_that_say_nothing(self):
        for first, one, second, other in [
                ("p", "plane 1.x", "q", "plane 1.a"), ("p", "plane 1.a", "q", "face 1.a up"),
                ("p", "edge 1.a 1.b 1/1", "q", "plane 1.a"), ("p", "corner 1.a 1.b 1.low", "q", "plane 1.a"),
                ("p", "plane 1.a", "q", "corner 1.a 1.b 1.low"), ("p", "plane 1.a", "q", "plane 1.b"),
                ("p", "face 1.a by 1.b 2/2", "q", "plane 1.a")]:
            found = assembly("p", "q")
            corners(found, "p", "q")
            found.flush(first, one, second, other)
            self.assertEqual(found.places(), ("waits", [2]), (one, other))
        for one, other in [("corner 1.a 1.b 1.low", "plane 1.a"), ("face 1.a", "corner 1.a 1.b 1.low"),
                           ("edge 1.a 1.b 1/1", "corner 1.a 1.b 1.low"), ("corner 1.a 1.b 1.low", "corner 1.a 1.c 1.low")]:
            found = assembly("p", "q")
            found.meet("p", one, "q", other)
            self.assertEqual(found.places(), ("waits", [1]), (one, other))

    def test_split_names(self):
        found = Assembly(LOW, HIGH)
        found.put_in("s", slotted_block())
        found.put_in("q", small())
        found.flush("s", "face 1.high", "q", "plane 1.low")
        self.assertEqual(found.places(), ("waits", [1]))
        found.unmate(1)
        found.flush("s", "plane 1.high", "q", "plane 1.low")
        self.assertEqual(found.places(), ("free", ["q"]))
        found.meet("s", "corner 1.high 2.a 1.b", "q", "corner 1.a 1.b 1.low")
        self.assertEqual(found.places(), ("placed", [NONE, at(7, 4, 4)]))

    def test_planes_with_normals_that_look_apart(self):
        # The plane of a part does not depend on where the body is.
        found = assembly("p", "q")
        found.flush("p", "face 1.high up", "q", "face 1.low down")
        self.assertEqual(found.places()[0], "free")

    def test_whatever_else_there_is(self):
        found = assembly("p", "q", "r")
        found.flush("p", "plane 1.a", "q", "plane 1.a")
        found.flush("p", "plane 1.a", "q", "plane 1.b")
        found.flush("p", "plane 1.a", "q", "plane 1.a", gap=(1, 1))
        found.meet("p", "plane 1.a", "q", "plane 1.a")
        self.assertEqual(found.places(), ("waits", [2, 4]))
        found.unmate(2)
        self.assertEqual(found.places(), ("waits", [4]))
        found.unmate(4)
        self.assertEqual(found.places(), ("conflict", [1, 3]))
        found.unmate(1)
        self.assertEqual(found.places(), ("free", ["q", "r"]))


class Conflicts(AssemblyCase):

    def test_the_first_equation_that_contradicts(self):
        found = assembly("p", "q", "r")
        found.flush("p", "plane 1.a", "r", "plane 1.a")
        corners(found, "p", "q")
        found.flush("p", "plane 1.b", "q", "plane 1.b")
        found.flush("p", "plane 1.a", "r", "plane 1.b".replace("b", "c"))
        # x of q is 2 by the corner and 7 by the planes; what is behind does not count.
        self.assertEqual(found.places(), ("conflict", [2, 3]))
        found.unmate(2)
        self.assertEqual(found.places(), ("conflict", [1, 4]))

    def test_along_other_parts(self):
        found = assembly("p", "q", "r")
        found.flush("p", "plane 1.a", "q", "plane 1.a")
        found.flush("p", "plane 1.b", "q", "plane 1.b")
        found.flush("r", "plane 1.a", "q", "plane 1.a")
        found.flush("r", "plane 1.a", "p", "plane 1.a", gap=(1, 100))
        self.assertEqual(found.places(), ("conflict", [1, 3, 4]))

    def test_a_meet_that_contradicts(self):
        found = assembly("p", "q")
        corners(found, "p", "q")
        found.meet("p", "corner 1.b 1.c 1.high", "q", "corner 1.a 1.d 1.low")
        self.assertEqual(found.places(), ("conflict", [1, 2]))
        # The three equations of one meet are one mate.
        other = assembly("p", "q", "r")
        corners(other, "p", "q")
        corners(other, "q", "r")
        other.meet("r", "corner 1.a 1.d 1.low", "p", "corner 1.a 1.d 1.high")
        self.assertEqual(other.places(), ("conflict", [1, 2, 3]))

    def test_equations_that_follow_are_passed_over(self):
        found = assembly("p", "q")
        found.flush("p", "plane 1.a", "q", "plane 1.a")
        found.flush("q", "plane 1.a", "p", "plane 1.a")
        found.flush("p", "plane 1.a", "q", "plane 1.a", gap=(1, 1))
        self.assertEqual(found.places(), ("conflict", [1, 3]))
        found.unmate(1)
        self.assertEqual(found.places(), ("conflict", [2, 3]))
        found.unmate(3)
        self.assertEqual(found.places(), ("free", ["q"]))
        # A flush follows from a meet that has already said it.
        corners(found, "p", "q")
        self.assertEqual(found.places(), ("placed", [NONE, at(2, 3, 1)]))


class Contacts(AssemblyCase):

    def test_errors_in_their_order(self):
        found = assembly("p", "q", "r")
        for first, second in [("x", "y"), ("x", "x"), ("x", "p"), ("p", "x")]:
            self.refuse(Unknown, found.contact_of, first, second)
        self.refuse(Beyond, found.contact_of, "q", "q")
        self.refuse(Unplaced, found.contact_of, "p", "q")
        corners(found, "p", "q")
        # All parts must be placed.
        self.refuse(Unplaced, found.contact_of, "p", "q")
        corners(found, "p", "r")
        self.assertEqual(found.contact_of("p", "q"), ("clash", (6, 1)))
        found.flush("p", "plane 1.a", "q", "plane 1.a", gap=(1, 1))
        self.refuse(Unplaced, found.contact_of, "p", "q")
        self.refuse(Beyond, found.contact_of, "p", "p")

    def test_contacts(self):
        found = assembly("p", "q", "r", "s")
        found.meet("q", "corner 1.a 1.d 1.low", "p", "corner 1.b 1.c 1.high")
        found.meet("r", "corner 1.a 1.d 1.low", "p", "corner 1.a 1.d 1.low")
        found.meet("s", "corner 1.b 1.c 1.high", "q", "corner 1.b 1.c 1.high")
        self.assertEqual(found.places(), ("placed", [NONE, at(8, 7, 4), at(2, 3, 1), at(8, 7, 4)]))
        for first, second, wanted in [("p", "q", ("touch", None)), ("p", "r", ("clash", (6, 1))), ("q", "r", ("apart", None)),
                                      ("q", "s", ("clash", (6, 1)))]:
            self.assertEqual(found.contact_of(first, second), wanted)
            self.assertEqual(found.contact_of(second, first), wanted)

    def test_the_room_of_the_assembly(self):
        found = Assembly(at(0, 0, 0), at(10, (7, 2), 2))
        found.put_in("p", plain_block())
        found.put_in("q", plain_block())
        corners(found, "p", "q")
        self.assertEqual(found.contact_of("p", "q"), ("clash", (3, 1)))
        self.assertEqual(found.contact_of("p", "q"),
                         contact(plain_block(), plain_block(), [NONE, NONE], at(0, 0, 0), at(10, (7, 2), 2)))


if __name__ == "__main__":
    unittest.main()
