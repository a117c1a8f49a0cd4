"""Points 68 to 70, 73 and 74: modellers."""

import random
import unittest

from helpers import FaultCase
from parts import BLOCK, HALF, SLOT, HIGH, LOW, declared, document, inserted, modeller, sketch_text, snapshot
from truepart.edits import apply
from truepart.errors import Beyond, Full, NoSide, PartError, TextFault, Unknown
from truepart.faces import face_pieces
from truepart.documents import Document
from truepart.making import make
from truepart.measures import volume
from truepart.modellers import Modeller
from truepart.names import itself, look
from truepart.nametexts import read_name
from truepart.bodies import Body

SHIFT = 'copy {} shift ("1", "0", "0") times {};'


def replay(rows):
    """What edits make, one behind the other, from nothing, with the numbers that they had."""
    found = Document(((0, 1),) * 3, ((10, 1),) * 3)
    for _, _, edit, came in rows:
        if edit[0] == "insert":
            found.last_feature = came - 1
        if edit[0] == "keep":
            found.last_name = came - 1
        found, number = apply(found, edit)
        assert number == came
    return found


class Fields(FaultCase):

    def test_at_first(self):
        found = Modeller(["0", "2/4", "-3"], ("1", "3/4", "4/2"))
        self.assertEqual(found.low, ((0, 1), (1, 2), (-3, 1)))
        self.assertEqual(found.high, ((1, 1), (3, 4), (2, 1)))
        self.assertEqual(found.rows, [])
        self.assertEqual(snapshot(found.document), snapshot(Document(found.low, found.high)))
        for told in (found.parameters(), found.edits(), found.features(), found.kept_names()):
            self.assertEqual(told, [])
        self.assertIsNone(found.undo(1))

    def test_rooms_that_are_no_fractions(self):
        self.assert_fault(1, 2, Modeller, ("0", "0 ", "x"), HIGH)
        self.assert_fault(1, 1, Modeller, LOW, ("1", "1", ""))

    def test_what_edits_return(self):
        found = Modeller(LOW, HIGH)
        self.assertIsNone(found.declare(1, "w", "2", "0", "4"))
        self.assertIsNone(found.set_value(1, "w", "3"))
        self.assertEqual(found.insert_feature(1, BLOCK), 1)
        self.assertEqual(found.insert_feature(2, HALF, place=0), 2)
        self.assertIsNone(found.change(1, 1, SLOT))
        self.assertIsNone(found.change(1, 1, BLOCK, becomes=[("a", ["b"])]))
        self.assertIsNone(found.move(1, 1, 0))
        self.assertIsNone(found.suppress(1, 1, True))
        self.assertEqual(found.keep(1, "plane 1.a"), 1)
        self.assertIsNone(found.remove_feature(1, 1))
        self.assertEqual(found.insert_feature(1, BLOCK), 3)
        self.assertEqual(found.keep(1, "plane 2.half"), 2)

    def test_rows(self):
        found = modeller(BLOCK, parameters=[("w", "6/4", "0", "4")])
        found.change(7, 1, BLOCK, becomes=[["a", ["b", "c"]]])
        found.keep(2, "plane 1.a")
        self.assertEqual(found.rows[0], (1, 1, ("declare", "w", (3, 2), (0, 1), (4, 1)), None))
        self.assertEqual(found.rows[1], (2, 1, ("insert", BLOCK, None), 1))
        self.assertEqual(found.rows[2][:2] + found.rows[2][3:], (3, 7, None))
        self.assertEqual(found.rows[3], (4, 2, ("keep", "plane 1.a"), 1))
        self.assertEqual(snapshot(found.document), snapshot(replay(found.rows)))

    def test_arguments_are_not_kept(self):
        found = modeller(BLOCK)
        sides, pairs = ["b", "c"], [("a", None)]
        pairs[0] = ("a", sides)
        found.change(1, 1, BLOCK, becomes=pairs)
        told = found.edits()
        sides.append("d")
        pairs.clear()
        self.assertEqual(found.edits(), told)


class Told(unittest.TestCase):

    def test_parameters(self):
        found = modeller(parameters=[("w", "6/4", "-1", "4"), ("h", "3", "3", "3")])
        self.assertEqual(found.parameters(), [("w", "3/2", "-1", "4"), ("h", "3", "3", "3")])
        found.set_value(2, "w", "-1")
        self.assertEqual(found.parameters()[0], ("w", "-1", "-1", "4"))

    def test_edits(self):
        found = Modeller(LOW, HIGH)
        found.declare(1, "w", "6/4", "0", "4")
        found.set_value(2, "w", "8/2")
        found.insert_feature(1, BLOCK)
        half = 'cut half(1,0,0)at("w","0","0");'
        found.insert_feature(3, half, place=0)
        found.change(1, 1, SLOT, becomes=(("a", ("b", "c")), ["b", []]))
        found.move(1, 1, 0)
        found.suppress(1, 1, True)
        found.keep(2, "corner 1.b 2.half 1.a")
        found.remove_feature(1, 2)
        self.assertEqual(found.edits(), [
            (1, 1, ("declare", "w", "3/2", "0", "4")), (2, 2, ("set", "w", "4")), (3, 1, ("insert", BLOCK, None, 1)),
            (4, 3, ("insert", half, 0, 2)), (5, 1, ("change", 1, SLOT, [("a", ["b", "c"]), ("b", [])])),
            (6, 1, ("move", 1, 0)), (7, 1, ("suppress", 1, True)), (8, 2, ("keep", "corner 1.b 2.half 1.a", 1)),
            (9, 1, ("remove", 2))])
        found.edits()[4][2][3].clear()
        found.edits().clear()
        self.assertEqual(found.edits()[4][2][3], [("a", ["b", "c"]), ("b", [])])

    def test_features(self):
        found = modeller(BLOCK, 'cut half(1,0,0)at"plane 1.a";', HALF)
        found.suppress(1, 3, True)
        told = found.features()
        self.assertEqual([row[0] for row in told], [1, 2, 3])
        self.assertEqual(told[1], (2, 'cut half (1, 0, 0) at "plane 1.a";\n', "waits", "plane 1.a does not fit"))
        self.assertEqual(told[2], (3, HALF + "\n", "suppressed", ""))
        self.assertEqual(told[0][2:], ("made", ""))
        told.clear()
        self.assertEqual(len(found.features()), 3)

    def test_kept_names(self):
        found = modeller(BLOCK)
        found.keep(1, "edge 1.b 1.a 1/1")
        found.keep(1, "face 1.a by 1.low 1/1 down")
        found.change(1, 1, BLOCK, becomes=[("a", ["c", "d"])])
        told = found.kept_names()
        self.assertEqual(told, [(1, "edge 1.a 1.b 1/1", [["1.c", "1.d"], ["1.b"]]),
                                (2, "face 1.a by 1.low 1/1 down", [["1.c", "1.d"], ["1.low"]])])
        told[0][2][0].clear()
        self.assertEqual(found.kept_names()[0][2][0], ["1.c", "1.d"])

    def test_body(self):
        found = modeller(BLOCK, 'cut half (1, 0, 0) at ("w", "0", "0");', parameters=[("w", "4", "0", "10")])
        self.assertIsInstance(found.body(), Body)
        self.assertEqual(volume(found.body()), (2 * 4 * 3, 1))
        found.set_value(1, "w", "11/2")
        self.assertEqual(volume(found.body()), (42, 1))
        found.undo(1)
        self.assertEqual(volume(found.body()), (24, 1))
        self.assertEqual(found.body().planes, make(found.document, [(4, 1)])[0].planes)

    def test_look_up(self):
        found = modeller(BLOCK, SLOT)
        self.assertEqual(found.keep(1, "face 1.a"), 1)
        self.assertEqual(found.keep(1, "face 1.high"), 2)
        body = found.body()
        self.assertEqual(found.look_up(1), ("found", face_pieces(body, [(1, (), "a")])[0]))
        self.assertEqual(found.look_up(2), ("split", face_pieces(body, [(1, (), "high")])))
        self.assertEqual(found.look_up("face 1.a"), found.look_up(1))
        self.assertEqual(found.look_up("face 9.a"), ("lost", []))
        found.change(1, 1, BLOCK, becomes=[("a", ["low"]), ("low", ["a"])])
        self.assertEqual(found.look_up(1)[1][0], found.body().planes.index(((0, 0, 1), (1, 1))))
        self.assertEqual(found.look_up("face 1.a")[1][0], found.body().planes.index(((0, 1, 0), (3, 1))))
        for number in (0, 3, -1):
            with self.assertRaises(Unknown):
                found.look_up(number)
        for text in ("", "face", "face 1", "1"):
            with self.assertRaises(TextFault):
                found.look_up(text)

    def test_a_kept_name_whose_origins_are_gone(self):
        found = modeller(BLOCK, BLOCK)
        found.keep(1, "face 1.a")
        found.remove_feature(1, 1)
        self.assertEqual(found.kept_names(), [(1, "face 1.a", [[]])])
        self.assertEqual(found.look_up(1), ("lost", []))


class Errors(FaultCase):

    def refuse(self, error, found, call, *arguments, **more):
        rows, kept, last = list(found.rows), snapshot(found.document.copied()), found.edits()
        with self.assertRaises(error) as caught:
            call(*arguments, **more)
        self.assertIs(caught.exception.__class__, error)
        self.assertEqual((found.rows, snapshot(found.document), found.edits()), (rows, kept, last))
        return caught.exception

    def full(self):
        found = modeller(BLOCK, parameters=[("w", "2", "0", "4")])
        for k in range(58):
            found.suppress(2, 1, k % 2 == 0)
        self.assertEqual(len(found.rows), 60)
        return found

    def test_full_at_the_edit_behind_sixty(self):
        found = self.full()
        self.refuse(Full, found, found.declare, 1, "2", "9", "0", "1")
        self.refuse(Full, found, found.set_value, 1, "x", "9")
        self.refuse(Full, found, found.insert_feature, 1, "add", place=9)
        self.refuse(Full, found, found.change, 1, 9, "add", becomes=[("x", [])])
        self.refuse(Full, found, found.remove_feature, 1, 9)
        self.refuse(Full, found, found.move, 1, 9, 9)
        self.refuse(Full, found, found.suppress, 1, 9, True)
        self.refuse(Full, found, found.keep, 1, "")
        found.undo(2)
        found.keep(1, "plane 1.a")
        self.assertEqual(found.edits()[-1][0], 61)
        self.refuse(Full, found, found.keep, 1, "plane 1.a")

    def test_texts_that_are_no_fractions_come_first_of_all(self):
        for found in (self.full(), modeller(parameters=[("w", "2", "0", "4")])):
            for arguments, column in [(("2", "1/", "x", ""), 3), (("2", "1", "1x", "y"), 2), (("w", "1", "1", "+1"), 1)]:
                fault = self.refuse(TextFault, found, found.declare, 1, *arguments)
                self.assertEqual((fault.line, fault.column), (1, column))
            fault = self.refuse(TextFault, found, found.set_value, 1, "x", "1.5")
            self.assertEqual((fault.line, fault.column), (1, 2))

    def test_errors_of_edits(self):
        found = modeller(BLOCK, parameters=[("w", "2", "0", "4")])
        self.refuse(Beyond, found, found.set_value, 1, "w", "5")
        self.refuse(NoSide, found, found.keep, 1, "plane 2.a")
        self.refuse(NoSide, found, found.change, 1, 1, BLOCK, becomes=[("x", [])])
        self.refuse(Unknown, found, found.remove_feature, 1, 2)
        # No number is given by an edit that is refused.
        found.suppress(1, 1, True)
        self.assertEqual(found.edits()[-1][0], 3)


class Undo(unittest.TestCase):

    def test_of_each_hand(self):
        found = modeller(BLOCK)
        found.insert_feature(2, HALF)
        found.insert_feature(3, SLOT)
        found.suppress(1, 3, True)
        self.assertEqual(found.undo(2), ("undone", 2))
        self.assertEqual([row[0] for row in found.features()], [1, 3])
        self.assertEqual(found.undo(1), ("undone", 4))
        self.assertEqual([row[2] for row in found.features()], ["made", "made"])
        self.assertIsNone(found.undo(2))
        self.assertEqual([row[0] for row in found.edits()], [1, 3])
        self.assertEqual(found.undo(1), ("undone", 1))
        self.assertEqual(found.undo(3), ("undone", 3))
        self.assertEqual((found.edits(), found.features()), ([], []))

    def test_numbers_behind_undo(self):
        found = modeller(BLOCK, HALF)
        found.keep(1, "plane 1.a")
        self.assertEqual(found.undo(1), ("undone", 3))
        self.assertEqual(found.undo(1), ("undone", 2))
        self.assertEqual((found.document.last_feature, found.document.last_name), (2, 1))
        self.assertEqual(found.insert_feature(1, HALF), 3)
        self.assertEqual(found.keep(1, "plane 1.a"), 2)
        self.assertEqual([row[0] for row in found.edits()], [1, 4, 5])
        found.undo(1)
        found.undo(1)
        found.undo(1)
        self.assertEqual(found.insert_feature(1, HALF), 4)
        self.assertEqual([row[0] for row in found.edits()], [6])

    def test_features_have_the_numbers_that_they_had(self):
        found = modeller(HALF)
        found.insert_feature(2, BLOCK)
        found.keep(1, "plane 1.half")
        found.keep(2, "plane 2.a")
        found.insert_feature(2, 'cut half (0, 1, 0) at "face 2.c" plus ("0", "-1", "0");')
        self.assertEqual(found.undo(1), ("undone", 3))
        self.assertEqual(found.undo(1), ("undone", 1))
        self.assertEqual([row[0] for row in found.features()], [2, 3])
        self.assertEqual(found.kept_names(), [(2, "plane 2.a", [["2.a"]])])
        self.assertEqual([row[2:] for row in found.features()], [("made", "")] * 2)

    def test_refused(self):
        found = modeller(BLOCK)
        found.insert_feature(2, HALF)
        found.insert_feature(2, 'cut half (0, 1, 0) at "face 1.c";')
        found.keep(3, "plane 1.a")
        before = (found.edits(), snapshot(found.document.copied()))
        self.assertEqual(found.undo(1), ("refused", 3))
        self.assertEqual((found.edits(), snapshot(found.document)), before)
        found.undo(2)
        self.assertEqual(found.undo(1), ("refused", 4))
        found.undo(3)
        self.assertEqual(found.undo(1), ("undone", 1))
        self.assertEqual([row[0] for row in found.features()], [2])

    def test_only_the_last_edit_is_tried(self):
        found = modeller(HALF, BLOCK)
        found.keep(2, "plane 2.a")
        self.assertEqual(found.undo(1), ("refused", 3))

    def test_undo_can_be_refused_for_what_is_full(self):
        found = modeller(BLOCK, BLOCK, BLOCK, BLOCK, BLOCK)
        found.change(2, 1, HALF)
        found.insert_feature(1, HALF)
        self.assertEqual(found.undo(2), ("undone", 6))
        found.change(2, 1, HALF)
        found.insert_feature(1, sketch_text(lines="ab"))
        self.assertEqual(found.undo(2), ("refused", 9))

    def test_an_expression_whose_parameter_is_gone(self):
        found = modeller(parameters=[("w", "1", "0", "2")])
        found.insert_feature(2, 'cut half (1, 0, 0) at ("w", "0", "0");')
        self.assertEqual(found.undo(1), ("refused", 2))

    def test_undo_gives_meanings_back(self):
        found = modeller(BLOCK)
        found.keep(2, "plane 1.a")
        found.change(1, 1, sketch_text(lines="bcd"))
        self.assertEqual(found.kept_names()[0][2], [[]])
        self.assertEqual(found.undo(1), ("undone", 3))
        self.assertEqual(found.kept_names()[0][2], [["1.a"]])

    def test_the_document_is_what_the_edits_make_from_nothing(self):
        chance = random.Random(5)
        for _ in range(12):
            found = Modeller(LOW, HIGH)
            given = [0, 0]
            for _ in range(30):
                random_deed(chance, found)
                wanted = replay(found.rows)
                given = [max(given[0], wanted.last_feature), max(given[1], wanted.last_name)]
                wanted.last_feature, wanted.last_name = given
                self.assertEqual(snapshot(found.document), snapshot(wanted))


def random_deed(chance, found):
    """Makes an edit or takes one back; what is refused leaves all as it was."""
    hand = chance.randint(1, 3)
    number = chance.randint(1, found.document.last_feature + 1)
    name = chance.choice(["plane 1.a", "plane 1.half", "corner 1.a 1.b 1.high", "plane 2.1.a", "face 3.low", "plane 0.xl"])
    text = chance.choice([BLOCK, SLOT, HALF, sketch_text(lines="bcd"), SHIFT.format(number, chance.randint(1, 3)),
                          f'cut half (1, 0, 0) at "{name}" plus ("1/2", "0", "0");',
                          'cut half (1, 0, 0) at ("w", "0", "0");'])
    before = (found.edits(), snapshot(found.document.copied()))
    try:
        chance.choice([
            lambda: found.declare(hand, chance.choice("wh"), "2", "0", "4"), lambda: found.set_value(hand, "w", "3"),
            lambda: found.insert_feature(hand, text), lambda: found.insert_feature(hand, text, place=chance.randint(0, 3)),
            lambda: found.change(hand, number, text, becomes=chance.choice([(), [("a", ["b", "c"])]])),
            lambda: found.remove_feature(hand, number), lambda: found.move(hand, number, chance.randint(0, 3)),
            lambda: found.suppress(hand, number, chance.choice([True, False])), lambda: found.keep(hand, name),
            lambda: found.undo(hand), lambda: found.undo(hand)])()
    except PartError:
        assert (found.edits(), snapshot(found.document)) == before


class Names(unittest.TestCase):

    def test_kept_names_go_in_the_whole_body(self):
        found = modeller(BLOCK, 'cut half (0, 0, 1) at "face 1.high" plus ("0", "0", "-1");')
        found.keep(1, "face 1.high")
        self.assertEqual(found.look_up(1), ("lost", []))
        self.assertEqual(found.features()[1][2], "made")

    def test_kept_names_go_with_what_their_places_mean(self):
        found = modeller(BLOCK, SLOT)
        found.keep(1, "edge 1.a 1.high 1/1")
        found.change(1, 1, BLOCK, becomes=[("a", ["a", "c"])])
        name = read_name("edge 1.a 1.high 1/1")
        wanted = look(found.body(), name, [[(1, (), "a"), (1, (), "c")], [(1, (), "high")]])
        self.assertEqual(found.look_up(1), wanted)
        self.assertEqual(wanted[0], "split")
        self.assertEqual(look(found.body(), name, itself(name))[0], "found")


if __name__ == "__main__":
    unittest.main()
