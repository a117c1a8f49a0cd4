"""Point 72: what edits make of the origins that places of names mean."""

import unittest

from parts import BLOCK, HALF, document, inserted, meant, sketch_text
from truepart.edits import apply

SHIFT = 'copy {} shift ("1", "0", "0") times {};'
MIRROR = 'copy {} mirror (1, 0, 0) at ("1", "0", "0");'

def behind(found, *edits):
    """What the places of the first kept name mean behind edits, in words."""
    for edit in edits:
        found, _ = apply(found, edit)
    return [" ".join(".".join(map(str, (number, *occurrences, name))) for number, occurrences, name in place)
            for place in found.kept[0]["means"]]


WEDGE = sketch_text(lines="ab")


def copies():
    """A wedge, a copy of it, a copy of the copy, and a name with an origin of each."""
    return document(inserted(WEDGE), inserted(SHIFT.format(1, 3)), inserted(MIRROR.format(2)),
                    ("keep", "corner 1.a 2.3.a 3.1.2.a"))


class Changes(unittest.TestCase):

    def kept(self, text="corner 1.a 1.b 1.low"):
        return document(inserted(BLOCK), inserted(HALF), ("keep", text))

    def test_at_first_each_place_means_its_own_origin(self):
        self.assertEqual(behind(self.kept()), ["1.a", "1.b", "1.low"])

    def test_change_without_pairs(self):
        self.assertEqual(behind(self.kept(), ("change", 1, sketch_text(lines="bcd"), ())), ["", "1.b", "1.low"])
        self.assertEqual(behind(self.kept(), ("change", 1, HALF, ())), ["", "", ""])

    def test_change_with_pairs(self):
        new = sketch_text(lines="bcd")
        pairs = [("a", ["d", "b", "d"]), ("b", []), ("low", ("high",))]
        self.assertEqual(behind(self.kept(), ("change", 1, new, pairs)), ["1.d 1.b", "", "1.high"])

    def test_a_side_that_is_still_there_can_have_a_pair(self):
        self.assertEqual(behind(self.kept(), ("change", 1, BLOCK, [("a", ["b"]), ("b", ["a"])])), ["1.b", "1.a", "1.low"])

    def test_origins_that_come_twice(self):
        pairs = [("a", ["c", "b"]), ("b", ["c", "d"])]
        one = ("change", 1, BLOCK, pairs)
        self.assertEqual(behind(self.kept(), one), ["1.c 1.b", "1.c 1.d", "1.low"])
        # c stays what it is, b becomes c and d: c comes once, where it came first.
        self.assertEqual(behind(self.kept(), one, one), ["1.c 1.d", "1.c 1.d", "1.low"])
        back = ("change", 1, BLOCK, [("b", ["a", "c"])])
        self.assertEqual(behind(self.kept(), one, back), ["1.c 1.a", "1.c 1.d", "1.low"])

    def test_what_became_nothing_stays_nothing(self):
        found = self.kept()
        self.assertEqual(behind(found, ("change", 1, sketch_text(lines="bcd"), ()), ("change", 1, BLOCK, ())),
                         ["", "1.b", "1.low"])

    def test_origins_of_others_stay(self):
        found = document(inserted(BLOCK), inserted(BLOCK), ("keep", "corner 0.xl 1.a 2.a"))
        self.assertEqual(behind(found, ("change", 2, BLOCK, [("a", ["b", "c"])])), ["0.xl", "1.a", "2.b 2.c"])
        self.assertEqual(behind(found, ("change", 2, HALF, ())), ["0.xl", "1.a", ""])

    def test_all_other_edits(self):
        found = self.kept()
        for edit in [("move", 1, 1), ("suppress", 1, True), ("remove", 2), inserted(BLOCK, 0), ("keep", "plane 1.c"),
                     ("declare", "w", (1, 1), (0, 1), (2, 1)), ("change", 2, BLOCK, ())]:
            self.assertEqual(behind(found, edit), ["1.a", "1.b", "1.low"])

    def test_remove(self):
        found = document(inserted(BLOCK), inserted(BLOCK), ("keep", "corner 0.xl 1.a 2.a"))
        self.assertEqual(behind(found, ("remove", 1)), ["0.xl", "", "2.a"])

    def test_the_names_in_features(self):
        half = 'cut half (0, 0, 1) at "plane {}";'
        found = document(inserted(BLOCK), inserted(half.format("1.high")), inserted(half.format("2.half")),
                         inserted(sketch_text(start='on "plane 1.low"', stop='on "face 1.high by 1.a 1/1"')),
                         ("change", 1, BLOCK, [("high", ["low", "high"]), ("low", ["a"])]))
        self.assertEqual([row["means"] for row in found.features], [
            [], [[meant("1.low 1.high")]], [[meant("2.half")]],
            [[meant("1.a")], [meant("1.low 1.high"), meant("1.a")]]])
        found, _ = apply(found, ("remove", 2))
        self.assertEqual(found.features[1]["means"], [[[]]])

    def test_the_names_of_a_text_that_is_changed_mean_themselves_again(self):
        half = 'cut half (0, 0, 1) at "plane 1.high";'
        found = document(inserted(BLOCK), inserted(half), ("change", 1, BLOCK, [("high", ["low"])]))
        self.assertEqual(found.features[1]["means"], [[meant("1.low")]])
        found, _ = apply(found, ("change", 2, half, ()))
        self.assertEqual(found.features[1]["means"], [[meant("1.high")]])


class Copies(unittest.TestCase):

    def test_of_a_feature_that_is_changed(self):
        edit = ("change", 1, sketch_text(lines="bc"), [("a", ["c", "b"])])
        self.assertEqual(behind(copies(), edit), ["1.c 1.b", "2.3.c 2.3.b", "3.1.2.c 3.1.2.b"])
        self.assertEqual(behind(copies(), ("change", 1, sketch_text(lines="bc"), ())), ["", "", ""])
        self.assertEqual(behind(copies(), ("change", 1, HALF, ())), ["", "", ""])

    def test_smaller_count(self):
        self.assertEqual(behind(copies(), ("change", 2, SHIFT.format(1, 2), ())), ["1.a", "", "3.1.2.a"])
        self.assertEqual(behind(copies(), ("change", 2, SHIFT.format(1, 1), ())), ["1.a", "", ""])
        self.assertEqual(behind(copies(), ("change", 2, MIRROR.format(1), ())), ["1.a", "", ""])

    def test_the_same_or_a_greater_count(self):
        same = ["1.a", "2.3.a", "3.1.2.a"]
        self.assertEqual(behind(copies(), ("change", 2, 'copy 1 shift ("0", "5", "0") times 3;', ())), same)
        self.assertEqual(behind(document(inserted(HALF), inserted(SHIFT.format(1, 1)), ("keep", "plane 2.1.half"),
                                         ("change", 2, SHIFT.format(1, 4), ()))), ["2.1.half"])
        self.assertEqual(behind(copies(), ("change", 3, SHIFT.format(2, 1), ())), same)

    def test_another_feature(self):
        found = document(inserted(WEDGE), inserted(WEDGE), inserted(SHIFT.format(1, 2)), inserted(MIRROR.format(3)),
                         ("keep", "corner 1.a 3.1.a 4.1.1.a"))
        self.assertEqual(behind(found, ("change", 3, SHIFT.format(2, 2), ())), ["1.a", "", ""])
        self.assertEqual(behind(found, ("change", 4, MIRROR.format(1), ())), ["1.a", "3.1.a", ""])

    def test_only_one_of_the_texts_is_a_copy(self):
        self.assertEqual(behind(copies(), ("change", 2, BLOCK, ())), ["1.a", "", ""])
        found = document(inserted(BLOCK), inserted(BLOCK), inserted(SHIFT.format(2, 2)), ("keep", "corner 1.a 2.a 3.1.a"))
        self.assertEqual(behind(found, ("change", 2, MIRROR.format(1), ())), ["1.a", "", ""])

    def test_remove(self):
        self.assertEqual(behind(copies(), ("remove", 1)), ["", "", ""])
        self.assertEqual(behind(copies(), ("remove", 2)), ["1.a", "", ""])
        self.assertEqual(behind(copies(), ("remove", 3)), ["1.a", "2.3.a", ""])

    def test_it_goes_by_the_texts_in_front_of_the_edit(self):
        found = copies()
        gone = [("change", 2, HALF, ()), ("change", 2, SHIFT.format(1, 3), ())]
        self.assertEqual(behind(found, *gone), ["1.a", "", ""])
        # Behind the change, 2 is a feature of its own, and the change of 1 does nothing to it.
        other = document(inserted(BLOCK), inserted(SHIFT.format(1, 2)), ("change", 2, BLOCK, ()),
                         ("keep", "corner 1.a 2.a 2.b"))
        self.assertEqual(behind(other, ("change", 1, HALF, ())), ["", "2.a", "2.b"])

    def test_moved_features(self):
        found, _ = apply(copies(), ("move", 1, 2))
        self.assertEqual(behind(found, ("change", 1, WEDGE, [("a", ["b"])])), ["1.b", "2.3.b", "3.1.2.b"])


if __name__ == "__main__":
    unittest.main()
