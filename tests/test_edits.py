"""Points 69 to 71: edits, their errors, and the numbers of sides."""

import unittest

from parts import BLOCK, HALF, SLOT, declared, document, inserted, meant, sketch_text, snapshot
from truepart.edits import apply, replayed, without_last
from truepart.errors import Beyond, Full, NoSide, Taken, TextFault, Unknown
from truepart.features import read_feature
from truepart.inventory import count_sides
from truepart.writing import rewritten

LOW, HIGH = ((0, 1),) * 3, ((10, 1),) * 3
BAD = "add half (0, 0, 0) at"
SHIFT = 'copy {} shift ("1", "0", "0") times {};'
MIRROR = 'copy {} mirror (1, 0, 0) at ("1", "0", "0");'


class EditCase(unittest.TestCase):

    def refuse(self, error, found, edit):
        """The error by which an edit is refused; the document stays as it was."""
        kept = snapshot(found.copied())
        with self.assertRaises(error, msg=repr(edit)) as caught:
            apply(found, edit)
        self.assertIs(caught.exception.__class__, error)
        self.assertEqual(snapshot(found), kept)
        return caught.exception

    def refuse_text(self, place, found, edit):
        fault = self.refuse(TextFault, found, edit)
        self.assertEqual((fault.line, fault.column), place)

    def refuse_side(self, origin, found, edit):
        self.assertEqual(self.refuse(NoSide, found, edit).origin, origin)

    def make(self, found, edit, came=None):
        """The document behind an edit; the old one stays as it was."""
        kept = snapshot(found.copied())
        made, number = apply(found, edit)
        self.assertEqual(number, came)
        self.assertEqual(snapshot(found), kept)
        self.assertIsNot(made, found)
        return made


class Parameters(EditCase):

    def test_declare(self):
        found = self.make(document(declared("w", "2")), declared("h_2", "3", "3", "3"))
        self.assertEqual(found.parameters[1], ["h_2", (3, 1), (3, 1), (3, 1)])
        self.assertEqual(found.names(), ["w", "h_2"])

    def test_errors_of_declare_in_their_order(self):
        four = document(*[declared(name, "2") for name in "abcd"])
        self.refuse_text((1, 1), four, declared("2a", "11"))
        self.refuse_text((1, 1), four, declared("", "2"))
        self.refuse(Taken, four, declared("a", "11"))
        self.refuse(Full, four, declared("e", "11"))
        three = document(*[declared(name, "2") for name in "abc"])
        self.refuse(Beyond, three, declared("d", "11"))
        self.refuse(Beyond, three, declared("d", "-1/9"))
        self.refuse(Beyond, three, declared("d", "5", "6", "4"))
        for value in ("0", "10"):
            self.make(three, declared("d", value))

    def test_a_text_does_not_change_when_parameters_are_declared(self):
        found = document(declared("w", "2"), inserted('cut half (1, 0, 0) at ("2*w + 1", "0", "0");'))
        behind = self.make(found, declared("h", "2"))
        text = found.features[0]["text"]
        self.assertEqual(behind.features[0]["text"], text)
        self.assertEqual(behind.features[0]["feature"], read_feature(["w", "h"], text))
        self.assertEqual(behind.features[0]["feature"]["spot"][1][0], ((1, 1), ((2, 1), (0, 1))))

    def test_set(self):
        found = document(declared("w", "2"), declared("h", "3"))
        self.assertEqual(self.make(found, ("set", "h", (10, 1))).setting(), [(2, 1), (10, 1)])
        self.refuse(Unknown, found, ("set", "x", (11, 1)))
        self.refuse(Beyond, found, ("set", "w", (101, 10)))
        self.refuse(Beyond, found, ("set", "w", (-1, 10)))


class Insert(EditCase):

    def test_behind_all_others(self):
        found = self.make(document(inserted(HALF)), inserted(BLOCK), 2)
        self.assertEqual([row["number"] for row in found.features], [1, 2])
        self.assertEqual(found.last_feature, 2)

    def test_places(self):
        found = document(inserted(HALF), inserted(HALF))
        for place, order in [(0, [3, 1, 2]), (1, [1, 3, 2]), (2, [1, 2, 3])]:
            self.assertEqual([row["number"] for row in self.make(found, inserted(HALF, place), 3).features], order)

    def test_the_text_is_written_again(self):
        found = self.make(document(declared("w", "1")), inserted('keep half(1,0,1)at("3/3*w","0","0");'), 1)
        self.assertEqual(found.features[0]["text"], 'keep half (1, 0, 1) at ("w", "0", "0");\n')

    def test_numbers_are_not_given_twice(self):
        found = document(inserted(HALF), inserted(HALF), ("remove", 2))
        self.assertEqual(self.make(found, inserted(HALF), 3).features[1]["number"], 3)

    def test_errors_in_their_order(self):
        eight = document(*[inserted(HALF)] * 8)
        self.refuse(Full, eight, inserted(BAD, 9))
        seven = document(*[inserted(HALF)] * 7)
        self.refuse(Beyond, seven, inserted(BAD, 8))
        self.refuse(Beyond, seven, inserted(BAD, -1))
        self.refuse_text((1, 10), seven, inserted(BAD, 7))
        self.refuse(Unknown, seven, inserted('copy 8 mirror (1, 0, 0) at "plane 9.a";'))
        self.refuse_side("9.a", seven, inserted('copy 1 mirror (1, 0, 0) at "plane 9.a";'))
        big = document(*[inserted(BLOCK)] * 5)
        self.refuse_side("9.a", big, inserted('add half (1, 0, 0) at "plane 9.a";'))
        self.refuse(Full, big, inserted(BLOCK))

    def test_a_text_that_is_too_long_when_it_is_written_again(self):
        text = 'add half(1,0,0)at("' + "+".join(["0"] * 900) + '","0","0");'
        self.make(document(), inserted(text), 1)
        long = 'add half(1,0,0)at("' + " " * 1970 + '0","0","0");'
        self.refuse_text((1, 1), document(), inserted(long))

    def test_what_is_copied_stands_in_front(self):
        found = document(inserted(HALF), inserted(HALF), ("remove", 1))
        self.refuse(Unknown, found, inserted(SHIFT.format(1, 1)))
        self.refuse(Unknown, found, inserted(SHIFT.format(2, 1), 0))
        self.refuse(Unknown, found, inserted(SHIFT.format(3, 1)))
        self.make(found, inserted(SHIFT.format(2, 1), 1), 3)

    def test_origins_stand_in_front(self):
        found = document(inserted(BLOCK), inserted(HALF))
        half = 'cut half (1, 0, 0) at "{}";'
        for name in ("plane 1.a", "face 1.high", "corner 1.low 0.xl 2.half", "face 1.b by 0.zh 1/2"):
            self.make(found, inserted(half.format(name)), 3)
        for name, origin in [("plane 1.e", "1.e"), ("plane 1.half", "1.half"), ("plane 2.a", "2.a"),
                             ("plane 0.a", "0.a"), ("plane 0.1.xl", "0.1.xl"), ("plane 1.1.a", "1.1.a"),
                             ("face 1.a by 3.half 1/1", "3.half"), ("corner 3.b 3.a 1.a", "3.a")]:
            self.refuse_side(origin, found, inserted(half.format(name)))
        self.refuse_side("2.half", found, inserted(half.format("plane 2.half"), 1))
        self.make(found, inserted(half.format("plane 1.a"), 1), 3)

    def test_the_first_origin_in_the_order_of_the_text(self):
        found = document(inserted(BLOCK))
        for names, origin in [("xyz", "1.x"), ("cyz", "1.y"), ("cbz", "1.z"), ("cbd", None)]:
            text = sketch_text(spot=f'"corner 1.a 1.b 1.{names[0]}"', start=f'on "plane 1.{names[1]}"',
                               stop=f'on "face 1.{names[2]}"')
            if origin is None:
                self.make(found, inserted(text), 2)
            else:
                self.refuse_side(origin, found, inserted(text))

    def test_sides_of_copies(self):
        found = document(inserted(HALF), inserted(SHIFT.format(1, 3)), inserted(SHIFT.format(2, 2)),
                         inserted(MIRROR.format(3)))
        half = 'cut half (1, 0, 0) at "plane {}";'
        for origin in ("2.1.half", "2.3.half", "3.2.3.half", "4.1.2.1.half"):
            self.make(found, inserted(half.format(origin)), 5)
        for origin in ("2.half", "2.4.half", "2.1.a", "3.3.1.half", "3.1.4.half", "3.1.half", "4.2.1.1.half",
                       "2.1.1.half", "4.1.2.half"):
            self.refuse_side(origin, found, inserted(half.format(origin)))
        # What a copy copies must be in front, too.
        moved = document(inserted(HALF), inserted(SHIFT.format(1, 3)), inserted(HALF), ("move", 1, 2))
        self.refuse_side("2.1.half", moved, inserted(half.format("2.1.half"), 2))
        self.make(moved, inserted(half.format("2.1.half"), 3), 4)


class Sides(EditCase):

    def test_forty_sides(self):
        # 6 of the room, 6 of each block.
        found = document(*[inserted(BLOCK)] * 5)
        self.assertEqual(count_sides(found.features), 36)
        for _ in range(2):
            found = document(*[inserted(BLOCK)] * 5, inserted(HALF), inserted(SHIFT.format(6, 3)))
            self.assertEqual(count_sides(found.features), 40)
        self.refuse(Full, found, inserted(HALF))
        self.refuse(Full, document(*[inserted(BLOCK)] * 5, inserted(HALF)), inserted(SHIFT.format(6, 4)))

    def test_suppressed_features_count(self):
        found = document(*[inserted(BLOCK)] * 5, ("suppress", 1, True), inserted(HALF), inserted(SHIFT.format(6, 3)))
        self.refuse(Full, found, inserted(HALF))

    def test_copies_of_copies(self):
        found = document(inserted(HALF), inserted(SHIFT.format(1, 4)), inserted(SHIFT.format(2, 4)),
                         inserted(MIRROR.format(2)))
        self.assertEqual(count_sides(found.features), 6 + 1 + 4 + 16 + 4)
        self.make(found, inserted(SHIFT.format(2, 2)), 5)
        self.refuse(Full, found, inserted(SHIFT.format(2, 3)))

    def test_change_counts_the_copies_of_a_feature(self):
        found = document(inserted(HALF), inserted(SHIFT.format(1, 4)), inserted(MIRROR.format(1)))
        self.make(found, ("change", 1, sketch_text(lines="abc"), ()))
        self.refuse(Full, found, ("change", 1, BLOCK, ()))

    def test_copies_that_end_nowhere_have_none(self):
        found = document(inserted(HALF), inserted(SHIFT.format(1, 4)), inserted(SHIFT.format(2, 4)), ("remove", 1))
        self.assertEqual(count_sides(found.features), 6)
        half = 'cut half (1, 0, 0) at "plane {}";'
        self.refuse_side("2.1.half", found, inserted(half.format("2.1.half")))

    def test_copies_in_a_ring_have_none(self):
        found = document(inserted(HALF), inserted(SHIFT.format(1, 4)), ("move", 2, 0),
                         ("change", 1, MIRROR.format(2), ()))
        self.assertEqual([row["feature"]["of"] for row in found.features], [1, 2])
        self.assertEqual(count_sides(found.features), 6)
        self.refuse_side("2.1.half", found, ("keep", "plane 2.1.half"))
        self.assertEqual(count_sides(self.make(found, ("change", 2, BLOCK, ())).features), 6 + 6 + 6)


class Change(EditCase):

    def test_change(self):
        found = document(inserted(BLOCK), inserted(HALF), ("suppress", 1, True))
        behind = self.make(found, ("change", 1, SLOT, ()))
        self.assertEqual(behind.features[0], {"number": 1, "text": rewritten([], SLOT), "means": [],
                                              "feature": read_feature([], SLOT), "suppressed": True})
        self.assertEqual(behind.features[1], found.features[1])

    def test_errors_in_their_order(self):
        found = document(*[inserted(HALF)] * 4)
        self.refuse(Unknown, found, ("change", 5, BAD, [("x", [])]))
        self.refuse_text((1, 10), found, ("change", 2, BAD, [("x", [])]))
        self.refuse(Unknown, found, ("change", 2, 'copy 3 mirror (1, 0, 0) at "plane 9.a";', [("x", [])]))
        self.refuse(Unknown, found, ("change", 2, SHIFT.format(2, 1), [("x", [])]))
        self.refuse_side("2.half", found, ("change", 2, 'add half (1, 0, 0) at "plane 2.half";', [("x", [])]))
        self.refuse_side("3.half", found, ("change", 2, 'add half (1, 0, 0) at "plane 3.half";', [("x", [])]))
        big = document(*[inserted(BLOCK)] * 5, inserted(HALF))
        self.refuse(Full, big, ("change", 6, BLOCK, [("x", [])]))
        self.refuse_side("x", found, ("change", 2, BLOCK, [("x", [])]))

    def test_pairs(self):
        found = document(inserted(sketch_text(lines="abc")))
        new = sketch_text(lines="bcd")
        self.make(found, ("change", 1, new, [("a", ["d", "b"]), ("low", ["high", "low"]), ("high", [])]))
        for pairs, side in [([("d", [])], "d"), ([("a", ["a"])], "a"), ([("a", ["d"]), ("a", ["d"])], "a"),
                            ([("a", ["x"]), ("d", [])], "d"), ([("a", ["b", "x"]), ("b", ["a"])], "x"),
                            ([("a", ["x"]), ("b", []), ("b", [])], "b"), ([("1.a", ["d"])], "1.a")]:
            self.refuse_side(side, found, ("change", 1, new, pairs))

    def test_no_pair_of_a_copy_is_right(self):
        found = document(inserted(HALF), inserted(SHIFT.format(1, 2)), inserted(HALF))
        self.refuse_side("half", found, ("change", 2, HALF, [("half", ["half"])]))
        self.refuse_side("half", found, ("change", 2, SHIFT.format(1, 3), [("half", []), ("x", [])]))
        self.refuse_side("half", found, ("change", 3, SHIFT.format(1, 2), [("half", []), ("x", [])]))
        self.make(found, ("change", 2, HALF, []))


class Others(EditCase):

    def test_remove(self):
        found = document(inserted(BLOCK), inserted(HALF))
        self.assertEqual([row["number"] for row in self.make(found, ("remove", 1)).features], [2])
        self.assertEqual(self.make(found, ("remove", 1)).last_feature, 2)
        self.refuse(Unknown, found, ("remove", 3))

    def test_move(self):
        found = document(inserted(HALF), inserted(HALF), inserted(HALF))
        for number, place, order in [(1, 0, [1, 2, 3]), (1, 1, [2, 1, 3]), (1, 2, [2, 3, 1]), (3, 0, [3, 1, 2]),
                                     (2, 0, [2, 1, 3]), (2, 2, [1, 3, 2])]:
            self.assertEqual([row["number"] for row in self.make(found, ("move", number, place)).features], order)
        self.refuse(Unknown, found, ("move", 4, 9))
        self.refuse(Beyond, found, ("move", 1, 3))
        self.refuse(Beyond, found, ("move", 1, -1))

    def test_suppress(self):
        found = self.make(document(inserted(HALF), inserted(HALF)), ("suppress", 2, True))
        self.assertEqual([row["suppressed"] for row in found.features], [False, True])
        again = self.make(found, ("suppress", 2, True))
        self.assertIs(again.features[1]["suppressed"], True)
        self.assertIs(self.make(again, ("suppress", 2, False)).features[1]["suppressed"], False)
        self.refuse(Unknown, found, ("suppress", 3, True))

    def test_keep(self):
        found = document(inserted(BLOCK))
        behind = self.make(found, ("keep", "corner 1.low 0.xl 1.b"), 1)
        self.assertEqual(behind.kept[0]["means"], [meant("0.xl"), meant("1.b"), meant("1.low")])
        self.assertEqual(self.make(behind, ("keep", "plane 1.a"), 2).last_name, 2)

    def test_errors_of_keep_in_their_order(self):
        six = document(inserted(BLOCK), *[("keep", "plane 1.a")] * 6)
        self.refuse_text((1, 1), six, ("keep", "plane 1"))
        self.refuse(Full, six, ("keep", "plane 2.a"))
        five = document(inserted(BLOCK), *[("keep", "plane 1.a")] * 5)
        self.refuse_side("2.a", five, ("keep", "plane 2.a"))
        self.refuse_side("1.x", five, ("keep", "edge 2.a 1.x 1/1"))
        self.refuse_side("3.a", five, ("keep", "face 3.a by 2.x 1/1"))

    def test_keep_looks_at_all_features(self):
        found = document(inserted(HALF), inserted(SHIFT.format(1, 2)), ("move", 1, 1), ("suppress", 1, True))
        self.make(found, ("keep", "plane 2.2.half"), 1)
        self.refuse_side("2.3.half", found, ("keep", "plane 2.3.half"))


class Replay(EditCase):

    def rows(self):
        return [(1, 1, declared("w", "2"), None), (3, 2, inserted(BLOCK), 1), (4, 1, ("keep", "plane 1.a"), 2),
                (7, 2, inserted('cut half (1, 0, 0) at ("w", "0", "0");', 0), 4), (8, 3, ("keep", "plane 4.half"), 5)]

    def test_numbers_stay(self):
        found, refused = replayed(LOW, HIGH, self.rows())
        self.assertIsNone(refused)
        self.assertEqual([row["number"] for row in found.features], [4, 1])
        self.assertEqual([row["number"] for row in found.kept], [2, 5])
        self.assertEqual((found.last_feature, found.last_name), (4, 5))
        self.assertEqual((found.low, found.high), (LOW, HIGH))

    def test_nothing(self):
        found, refused = replayed(LOW, HIGH, [])
        self.assertEqual((snapshot(found), refused), (snapshot(document()), None))

    def test_the_first_that_cannot_be_made(self):
        rows = self.rows()
        for gone, number in [(0, 7), (1, 4), (3, 8)]:
            self.assertEqual(replayed(LOW, HIGH, rows[:gone] + rows[gone + 1:]), (None, number))

    def test_without_last(self):
        rows = self.rows()
        kept = list(rows)
        self.assertEqual(without_last(rows, 1), (rows[:2] + rows[3:], 4))
        self.assertEqual(without_last(rows, 3), (rows[:4], 8))
        self.assertIsNone(without_last(rows, 4))
        self.assertIsNone(without_last([], 1))
        self.assertEqual(rows, kept)


if __name__ == "__main__":
    unittest.main()
