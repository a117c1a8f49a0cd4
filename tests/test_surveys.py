"""Points 2, 83 and 84: surveys."""

import random
import unittest
from fractions import Fraction

import trail_reference
from parts import declared, document, inserted, snapshot
from solids import block_text, origins
from test_following import passing, random_case, to
from truepart.making import make
from truepart.names import itself, look
from truepart.nametexts import read_name
from truepart.surveys import state_along, survey, survives
from truepart.ways import at_place, stages, way_to

HALF = 'add half (1, 0, 0) at ("w", "0", "0");'


def surveyed(found, goal, text, *meant):
    """The parts of a survey, where they begin and end being told by w."""
    way = to(found, goal)
    name = read_name(text)
    wanted = [origins(words) for words in meant] if meant else itself(name)
    rows = survey(found, way, name, wanted)
    told = []
    for low, begins, high, ends, *rest, meets in rows:
        edges = [at_place(way, place)[0] for place in (low, high)]
        edges = [part[0] if part[1] == 1 else part for part in edges]
        words = " ".join(".".join(map(str, (number, *occurrences, name))) for number, occurrences, name in meets)
        told.append(("[("[not begins] + str(edges[0]), str(edges[1]) + "])"[not ends], *rest, words))
    wanted_all = all(row[4] == "found" and not row[6] for row in rows)
    assert survives(found, way, name, wanted) is wanted_all
    return told


def half_document(start):
    return document(declared("w", start, "-9", "20"), inserted(HALF))


class Surveys(unittest.TestCase):

    def test_kinds_of_values(self):
        found = half_document("-2")
        name = read_name("face 1.half")
        self.assertEqual(survey(found, to(found, 12), name, itself(name)), [
            ((0, 1), True, (1, 7), False, "lost", 0, False, []),
            ((1, 7), True, (6, 7), False, "found", 1, True, [(1, (), "half"), (0, (), "xl")]),
            ((6, 7), True, (1, 1), True, "lost", 0, False, [(1, (), "half"), (0, (), "xh")])])

    def test_a_half_that_goes_through_the_room(self):
        found = half_document("-2")
        self.assertEqual(surveyed(found, 12, "face 0.xl"), [
            ("[-2", "0)", "found", 1, False, ""), ("[0", "12]", "lost", 0, False, "1.half 0.xl")])
        self.assertEqual(surveyed(found, 12, "plane 0.yl"), [
            ("[-2", "10)", "found", 1, False, ""), ("[10", "12]", "lost", 0, False, "1.half 0.xh")])
        # The two sides are one behind the other on the way.
        self.assertEqual(surveyed(found, 12, "face 0.xl", "0.xl 1.half"), [
            ("[-2", "10)", "found", 1, False, ""), ("[10", "12]", "lost", 0, False, "1.half 0.xh")])
        self.assertEqual(surveyed(found, 9, "face 0.xl", "0.xl 1.half"), [("[-2", "9]", "found", 1, False, "")])
        self.assertEqual(surveyed(half_document("12"), 5, "face 1.half"), [
            ("[12", "10]", "lost", 0, False, ""), ("(10", "5]", "found", 1, True, "1.half 0.xh")])

    def test_a_half_that_meets_another_one(self):
        found = document(declared("w", "2", "-9", "20"), inserted(HALF), inserted('cut half (1, 0, 0) at ("5", "0", "0");'))
        self.assertEqual(surveyed(found, 8, "face 1.half"), [
            ("[2", "5)", "found", 1, False, ""), ("[5", "8]", "lost", 0, False, "1.half 2.half")])
        self.assertEqual(surveyed(found, 4, "face 2.half"), [("[2", "4]", "found", 1, False, "")])

    def test_a_face_that_parts(self):
        self.assertEqual(surveyed(passing("0"), 10, "face 1.high"), [
            ("[0", "2]", "found", 1, False, ""), ("(2", "7)", "split", 2, False, "1.d 2.d"),
            # It is found again, but the part at which it was has vanished.
            ("[7", "10]", "found", 1, True, "1.b 2.b")])

    def test_a_face_that_joins(self):
        self.assertEqual(surveyed(passing("6"), 9, "face 1.high"), [
            ("[6", "7)", "split", 2, False, ""), ("[7", "9]", "found", 1, False, "1.b 2.b")])
        # The other way.
        self.assertEqual(surveyed(passing("9"), 0, "face 1.high"), [
            ("[9", "7]", "found", 1, False, ""), ("(7", "2)", "split", 2, False, "1.b 2.b"), ("[2", "0]", "found", 1, True, "1.d 2.d")])

    def test_facing(self):
        # It was at the face that looks down, too.
        self.assertEqual(surveyed(passing("6"), 9, "face 1.high up", "1.high 1.low"), [
            ("[6", "7)", "split", 2, False, ""), ("[7", "9]", "found", 1, True, "1.b 2.b")])
        self.assertEqual(surveyed(passing("6"), 9, "face 1.high down", "1.high 1.low"), [("[6", "9]", "found", 1, False, "")])
        self.assertEqual(surveyed(passing("0"), 9, "face 1.high down"), [("[0", "9]", "lost", 0, False, "")])

    def test_a_facing_that_is_not_right_at_first(self):
        # Only one piece looks up, until the slot parts it; then all are things, and the name comes back moved.
        self.assertEqual(surveyed(passing("0"), 8, "face 1.high up", "1.high 1.low"), [
            ("[0", "2]", "found", 1, False, ""), ("(2", "7)", "split", 2, False, "1.d 2.d"), ("[7", "8]", "found", 1, True, "1.b 2.b")])

    def test_planes(self):
        # A plane's name moves only if it was followed to nothing.
        self.assertEqual(surveyed(passing("0"), 10, "plane 1.high"), [
            ("[0", "7)", "found", 1, False, ""), ("[7", "10]", "found", 1, True, "1.b 2.b")])
        self.assertEqual(surveyed(passing("6"), 10, "plane 1.high"), [("[6", "10]", "found", 1, False, "")])
        self.assertEqual(surveyed(passing("0"), 5, "plane 2.low"), [
            ("[0", "1]", "lost", 0, False, ""), ("(1", "5]", "found", 1, True, "1.d 2.b")])
        self.assertEqual(surveyed(passing("0"), 5, "plane 1.high", "1.high 1.low"), [("[0", "5]", "split", 2, False, "")])

    def test_faces_by_an_edge(self):
        self.assertEqual(surveyed(passing("0"), 10, "face 1.high by 1.a 2/2"), [
            ("[0", "2]", "split", 1, False, ""), ("(2", "7)", "found", 1, False, "1.d 2.d"), ("[7", "10]", "split", 1, False, "1.b 2.b")])
        # Split at the start, it is at the one piece; behind x = 2 that has become the second one.
        self.assertEqual(surveyed(passing("0"), 10, "face 1.high by 1.a 1/2"), [
            ("[0", "2]", "split", 1, False, ""), ("(2", "7)", "found", 1, True, "1.d 2.d"), ("[7", "10]", "split", 1, False, "1.b 2.b")])
        self.assertEqual(surveyed(passing("4"), 1, "face 1.high by 1.a 1/2"), [
            ("[4", "2)", "found", 1, False, ""), ("[2", "1]", "split", 1, False, "1.d 2.d")])

    def test_edges(self):
        self.assertEqual(surveyed(passing("0"), 10, "edge 1.high 1.a 1/1"), [
            ("[0", "2]", "found", 1, False, ""), ("(2", "7)", "split", 2, False, "1.d 2.d"), ("[7", "10]", "found", 1, True, "1.b 2.b")])
        self.assertEqual(surveyed(passing("3"), 9, "edge 1.high 2.d 1/1"), [
            ("[3", "8)", "found", 1, False, ""), ("[8", "9]", "lost", 0, False, "1.b 2.d")])
        self.assertEqual(surveyed(passing("0"), 9, "edge 1.high 2.d 1/1"), [
            ("[0", "2]", "lost", 0, False, ""), ("(2", "8)", "found", 1, True, "1.d 2.d"), ("[8", "9]", "lost", 0, False, "1.b 2.d")])

    def test_corners(self):
        self.assertEqual(surveyed(passing("3"), 9, "corner 1.high 2.d 1.a"), [
            ("[3", "8)", "found", 1, False, ""), ("[8", "9]", "lost", 0, False, "1.b 2.d")])
        self.assertEqual(surveyed(passing("6"), 9, "corner 1.high 2.d 1.a", "1.high", "2.d 2.b", "1.a"), [
            ("[6", "7)", "split", 2, False, ""), ("[7", "8)", "found", 1, False, "1.b 2.b"), ("[8", "9]", "lost", 0, False, "1.b 2.d")])

    def test_corners_that_come_together(self):
        # At w = 4 two corners are one; behind it there are two again, and the name was followed to both.
        rows = [block_text("add", (1, 3), (1, 3), (1, "w")), block_text("add", (3, 5), (3, 5), (1, 4))]
        found = document(declared("w", "3", "0", "9"), *[inserted(text) for text in rows])
        self.assertEqual(surveyed(found, 5, "corner 1.b 1.c 1.high", "1.b 2.d", "1.c 2.a", "1.high 2.high"), [
            ("[3", "4)", "split", 2, False, ""), ("[4", "4]", "found", 1, False, "1.high 2.high"), ("(4", "5]", "split", 2, False, "1.high 2.high")])

    def test_what_meets_where_a_part_begins(self):
        # Three walls that meet: the slope x + z = w with the side x = 2 and the top z = 4.
        found = document(declared("w", "5", "-20", "50"), inserted(block_text("add", (2, 8), (3, 7), (1, 4))),
                         inserted('cut half (-1, 0, -1) at ("w", "0", "0");'))
        self.assertEqual(surveyed(found, 7, "corner 1.a 1.d 1.high"), [
            ("[5", "6)", "found", 1, False, ""), ("[6", "7]", "lost", 0, False, "1.d 1.high 2.half")])
        # Four planes: the corner (2, 3, 4) comes to lie on 2 x + y + z = w.
        four = document(declared("w", "10", "-20", "50"), inserted(block_text("add", (2, 8), (3, 7), (1, 4))),
                        inserted('cut half (-2, -1, -1) at ("0", "w", "0");'))
        self.assertEqual(surveyed(four, 12, "corner 1.a 1.d 1.high"), [
            ("[10", "11]", "found", 1, False, ""), ("(11", "12]", "lost", 0, False, "1.a 1.d 1.high 2.half")])

    def test_the_first_circuit_in_their_order(self):
        # At w = 5 the half 2 comes to the half 3, and to that of 4.
        rows = [HALF] + ['cut half (1, 0, 0) at ("5", "0", "0");'] * 2
        found = document(declared("w", "2", "-9", "20"), *[inserted(text) for text in rows])
        self.assertEqual(surveyed(found, 8, "face 1.half")[1][-1], "1.half 2.half")
        other = document(declared("w", "2", "-9", "20"), *[inserted(text) for text in rows[1:] + rows[:1]],
                         inserted('cut half (1, 0, 0) at ("5", "0", "0");'))
        self.assertEqual(surveyed(other, 8, "face 4.half")[-1][-1], "1.half 3.half")

    def test_the_walls_are_those_of_the_stage(self):
        # Feature 2 waits while feature 1 is not in the room; its wall is one of the stage behind the place.
        found = document(declared("w", "14", "-9", "20"), inserted(HALF),
                         inserted('cut half (1, 0, 0) at "face 1.half" plus ("1", "0", "0");'))
        self.assertEqual(surveyed(found, 5, "face 1.half"), [
            ("[14", "10]", "lost", 0, False, ""), ("(10", "5]", "found", 1, True, "1.half 0.xh")])
        self.assertEqual(surveyed(found, 5, "face 2.half"), [
            ("[14", "9)", "lost", 0, False, ""), ("[9", "5]", "found", 1, True, "2.half 0.xh")])

    def test_walls_that_are_there_on_one_side_only(self):
        # Where feature 1 leaves the room feature 2, which comes to it just there, waits.
        rows = [HALF, 'add half (1, 0, 0) at "face 1.half" plus ("w - 10", "0", "0");']
        found = document(declared("w", "8", "-9", "20"), *[inserted(text) for text in rows])
        self.assertEqual(surveyed(found, 12, "face 2.half"), [
            ("[8", "10)", "found", 1, False, ""), ("[10", "12]", "lost", 0, False, "1.half 2.half")])
        back = document(declared("w", "12", "-9", "20"), *[inserted(text) for text in rows])
        self.assertEqual(surveyed(back, 8, "face 2.half"), [
            ("[12", "10]", "lost", 0, False, ""), ("(10", "8]", "found", 1, True, "1.half 2.half")])

    def test_parts_of_one_place(self):
        # At w = 4 alone the tops of two blocks are one face.
        rows = [block_text("add", (1, 3), (1, 3), (1, "w")), block_text("add", (3, 5), (1, 3), (1, 4))]
        found = document(declared("w", "3", "0", "9"), *[inserted(text) for text in rows])
        self.assertEqual(surveyed(found, 5, "face 1.high", "1.high 2.high"), [
            ("[3", "4)", "split", 2, False, ""), ("[4", "4]", "found", 1, False, "1.high 2.high"), ("(4", "5]", "split", 2, False, "1.high 2.high")])
        self.assertEqual(surveyed(found, 4, "face 1.high", "1.high 2.high"), [
            ("[3", "4)", "split", 2, False, ""), ("[4", "4]", "found", 1, False, "")])

    def test_a_way_that_stands_still(self):
        self.assertEqual(surveyed(passing("4"), 4, "face 1.high"), [("[4", "4]", "split", 2, False, "")])
        self.assertEqual(surveyed(passing("0"), 0, "face 1.high"), [("[0", "0]", "found", 1, False, "")])


class Survives(unittest.TestCase):

    def test_survives(self):
        for start, goal, text, survived in [
                ("0", 2, "face 1.high", True), ("0", 3, "face 1.high", False), ("7", 9, "face 1.high", True), ("6", 9, "face 1.high", False),
                ("6", 9, "plane 1.high", True), ("0", 9, "plane 1.high", False), ("0", 9, "face 1.low", True), ("3", 8, "edge 1.high 2.d 1/1", False),
                ("3", 7, "edge 1.high 2.d 1/1", True), ("0", 1, "face 2.low", False)]:
            name = read_name(text)
            self.assertIs(survives(passing(start), to(passing(start), goal), name, itself(name)), survived, (start, goal, text))

    def test_found_all_along_but_moved(self):
        # The face is always one piece, but at w = 10 another one than before.
        found = half_document("8")
        text = 'add half (-1, 0, 0) at ("w - 10", "0", "0");'
        both = document(declared("w", "8", "-9", "20"), inserted(HALF), inserted(text))
        self.assertEqual(surveyed(both, 12, "face 1.half", "1.half 2.half"), [
            ("[8", "10)", "found", 1, False, ""), ("[10", "10]", "lost", 0, False, "1.half 0.xh"), ("(10", "12]", "found", 1, True, "1.half 0.xh")])
        name = read_name("face 1.half")
        self.assertFalse(survives(both, to(both, 12), name, [origins("1.half 2.half")]))
        self.assertTrue(survives(found, to(found, 9), name, itself(name)))


class FromNothing(unittest.TestCase):

    def test_state_along(self):
        found = passing("0")
        way = to(found, 10)
        name = read_name("face 1.high")
        for w, wanted in [(0, ("found", 1)), (2, ("found", 1)), (Fraction(21, 10), ("split", 2)), (7, ("found", 1)), (10, ("found", 1))]:
            place = Fraction(w) / 10
            self.assertEqual(state_along(found, way, name, itself(name), (place.numerator, place.denominator)), wanted)
        self.assertEqual(state_along(found, way, read_name("face 2.low"), [origins("2.low")], (0, 1)), ("lost", 0))

    def test_the_document_stays_as_it_was(self):
        found = passing("0")
        before = snapshot(found.copied())
        way = to(found, 10)
        name, meant = read_name("face 1.high"), [origins("1.high 1.low")]
        survey(found, way, name, meant)
        survives(found, way, name, meant)
        state_along(found, way, name, meant, (1, 2))
        self.assertEqual((snapshot(found), way, meant), (before, to(found, 10), [origins("1.high 1.low")]))

    def test_a_survey_tells_for_each_place_what_is_told_there(self):
        chance = random.Random(84)
        for _ in range(4):
            found, goals, name, meant = random_case(chance)
            way = way_to(found, goals)
            rows = survey(found, way, name, meant)
            self.assertEqual((rows[0][:2], rows[-1][2:4]), (((0, 1), True), ((1, 1), True)))
            for one, other in zip(rows, rows[1:]):
                self.assertEqual((one[2], one[3]), (other[0], not other[1]))
                self.assertNotEqual(one[4:7], other[4:7])
            places = [low for low, high in stages(found, way) if low == high]
            for place in places + [(chance.randint(0, 30), 31) for _ in range(6)]:
                told = [row for row in rows if is_in(row, Fraction(*place))]
                self.assertEqual(len(told), 1)
                body = make(found, at_place(way, place))[0]
                state, things = look(body, name, meant)
                wanted = (state, 1 if state == "found" else len(things))
                self.assertEqual(told[0][4:6], wanted)
                self.assertEqual(state_along(found, way, name, meant, place), wanted)

    def test_as_the_document_says(self):
        chance = random.Random(83)
        for _ in range(2):
            found, goals, name, meant = random_case(chance)
            way = way_to(found, goals)
            self.assertEqual(survey(found, way, name, meant), trail_reference.survey(found, way, name, meant))


def is_in(row, place):
    """Whether a part of a survey has a place."""
    low, begins, high, ends = Fraction(*row[0]), row[1], Fraction(*row[2]), row[3]
    return (low < place or (begins and low == place)) and (place < high or (ends and place == high))


if __name__ == "__main__":
    unittest.main()
