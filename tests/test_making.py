"""Points 47, 48, 49 and 74: how features are made, and why they wait."""

import unittest

from parts import BLOCK, HALF, SLOT, declared, document, inserted, sketch_text
from solids import block_text
from truepart.bodies import Body
from truepart.edits import apply
from truepart.making import front_of, is_long, make
from truepart.measures import volume

SHIFT = 'copy {} shift ("1", "0", "0") times {};'
MIRROR = 'copy {} mirror {} at {};'
PLANE = 'keep half (1, 0, 0) at "{}";'


def states(found, *setting):
    """The state of each feature, and why, in one text."""
    rows = make(found, list(setting) or found.setting())[1]
    assert [row[0] for row in rows] == [row["number"] for row in found.features]
    return [f"{state} {why}".strip() for _, state, why in rows]


def last_state(*texts):
    return states(document(*[inserted(text) for text in texts]))[-1]


def behind(found, *edits):
    for edit in edits:
        found, _ = apply(found, edit)
    return found


def offsets(found, number, setting):
    """The values of the planes of a feature's sides by the names of the sides."""
    front, _ = front_of(found, setting)
    return {origin[2]: offset for origin, _, offset in front.walls() if origin[0] == number}


class Made(unittest.TestCase):

    def test_kinds_of_values(self):
        body, told = make(document(inserted(BLOCK), inserted(HALF)), [])
        self.assertIsInstance(body, Body)
        self.assertEqual(told, [(1, "made", ""), (2, "made", "")])
        self.assertEqual([tool[:2] for tool in body.tools], [(1, "add"), (2, "keep"), (0, "keep")])

    def test_nothing(self):
        body, told = make(document(), [])
        self.assertEqual((told, volume(body), len(body.planes)), ([], (0, 1), 6))

    def test_one_behind_the_other(self):
        found = document(inserted(BLOCK), inserted(SLOT))
        self.assertEqual(volume(make(found, [])[0]), (72 - 12, 1))
        self.assertEqual(volume(make(behind(found, ("move", 2, 0)), [])[0]), (72, 1))

    def test_suppressed_features_have_no_tools(self):
        found = document(inserted(BLOCK), inserted(SLOT), ("suppress", 2, True))
        self.assertEqual(states(found), ["made", "suppressed"])
        self.assertEqual(volume(make(found, [])[0]), (72, 1))
        # Nothing is told of why, whatever there would be to tell.
        self.assertEqual(states(behind(found, ("change", 2, PLANE.format("plane 1.a"), ()))), ["made", "suppressed"])
        self.assertEqual(states(behind(found, ("suppress", 2, False))), ["made", "made"])

    def test_at_several_settings_and_back(self):
        found = document(declared("w", "5"), inserted('add half (1, 0, 0) at ("w", "0", "0");'))
        first = make(found, [(5, 1)])[0]
        self.assertEqual(volume(make(found, [(15, 2)])[0]), (250, 1))
        again = make(found, [(5, 1)])[0]
        self.assertEqual((again.planes, again.tools, again.cells), (first.planes, first.tools, first.cells))
        self.assertEqual(volume(again), (500, 1))


class Behind(unittest.TestCase):

    def test_a_name_that_is_behind(self):
        found = document(inserted(BLOCK), inserted(PLANE.format("plane 1.b")), ("move", 1, 1))
        self.assertEqual(states(found), ["waits plane 1.b is behind", "made"])
        self.assertEqual(states(behind(found, ("move", 1, 0))), ["made", "made"])

    def test_any_origin_of_the_name(self):
        found = document(inserted(BLOCK), inserted(BLOCK), inserted(PLANE.format("corner 1.a 0.xl 2.b")), ("move", 2, 2))
        self.assertEqual(states(found), ["made", "waits corner 0.xl 1.a 2.b is behind", "made"])

    def test_the_first_name_in_the_order_of_the_text(self):
        found = document(inserted(BLOCK), inserted(HALF), inserted(sketch_text(
            spot='"corner 1.a 1.b 1.low"', start='on "plane 2.half"', stop='on "face 1.high up"')))
        self.assertEqual(states(behind(found, ("move", 1, 2)))[1], "waits corner 1.a 1.b 1.low is behind")
        self.assertEqual(states(behind(found, ("move", 2, 2)))[1], "waits plane 2.half is behind")
        other = document(inserted(BLOCK), inserted(sketch_text(start='on "plane 1.low"', stop='on "face 1.high up"')))
        self.assertEqual(states(behind(other, ("move", 1, 1)))[0], "waits plane 1.low is behind")

    def test_before_all_other_reasons(self):
        sketch = sketch_text(spot='"corner 1.a 1.c 1.low"', lines="abc", stop='on "plane 2.half"')
        found = document(inserted(BLOCK), inserted(HALF), inserted(sketch.replace('through "0" "3"', "")))
        self.assertEqual(states(found)[2], "waits corner 1.a 1.c 1.low is lost")
        self.assertEqual(states(behind(found, ("move", 2, 2)))[1], "waits plane 2.half is behind")
        copy = document(inserted(BLOCK), inserted(MIRROR.format(1, "(1, 0, 0)", '"plane 1.a"')), ("move", 1, 1))
        self.assertEqual(states(copy)[0], "waits plane 1.a is behind")

    def test_origins_as_they_are_written(self):
        # 1.a has become 1.b, but 1 is what is written; a feature that is not there is not behind.
        found = document(inserted(BLOCK), inserted(PLANE.format("plane 1.a")))
        changed = behind(found, ("change", 1, BLOCK, [("a", ["b"])]))
        self.assertEqual(states(changed), ["made", "made"])
        self.assertEqual(states(behind(changed, ("move", 1, 1)))[0], "waits plane 1.a is behind")
        self.assertEqual(states(behind(found, ("remove", 1))), ["waits plane 1.a is lost"])

    def test_suppressed_features_can_be_behind(self):
        found = document(inserted(BLOCK), inserted(PLANE.format("plane 1.b")), ("suppress", 1, True))
        self.assertEqual(states(found), ["suppressed", "waits plane 1.b is lost"])
        self.assertEqual(states(behind(found, ("move", 1, 1))), ["waits plane 1.b is behind", "suppressed"])


class Copies(unittest.TestCase):

    def test_what_is_copied_has_no_tools(self):
        found = document(inserted(BLOCK), inserted(SHIFT.format(1, 2)), inserted(SHIFT.format(2, 1)))
        self.assertEqual(states(found), ["made", "made", "made"])
        self.assertEqual(states(behind(found, ("suppress", 1, True))),
                         ["suppressed", "waits feature 1 waits", "waits feature 2 waits"])
        self.assertEqual(states(behind(found, ("suppress", 2, True))), ["made", "suppressed", "waits feature 2 waits"])
        self.assertEqual(states(behind(found, ("remove", 1))), ["waits feature 1 waits", "waits feature 2 waits"])
        self.assertEqual(states(behind(found, ("move", 1, 2))), ["waits feature 1 waits", "waits feature 2 waits", "made"])
        self.assertEqual(states(behind(found, ("change", 1, PLANE.format("plane 0.xl"), ()))),
                         ["waits plane 0.xl is lost", "waits feature 1 waits", "waits feature 2 waits"])

    def test_copies(self):
        small = sketch_text(lines="abcd").replace('"8" "0"', '"3" "0"')
        found = document(inserted(small), inserted('copy 1 shift ("2", "0", "1") times 3;'))
        body = make(found, [])[0]
        self.assertEqual(volume(body), (12 * 4, 1))
        self.assertEqual([tool[0] for tool in body.tools], [1, 2, 2, 2, 0])
        self.assertEqual([tool[2][0][0] for tool in body.tools][1:4], [(2, (1,), "a"), (2, (2,), "a"), (2, (3,), "a")])

    def test_copies_of_copies(self):
        small = sketch_text(lines="abcd").replace('"8" "0"', '"5/2" "0"').replace('"0" "7"', '"0" "4"')
        found = document(inserted(small), inserted('copy 1 shift ("1", "0", "0") times 2;'))
        found = behind(found, inserted('copy 2 mirror (0, 1, 0) at ("0", "5", "0");'))
        body = make(found, [])[0]
        self.assertEqual(states(found), ["made"] * 3)
        self.assertEqual([tool[2][0][0] for tool in body.tools][:-1],
                         [(1, (), "a"), (2, (1,), "a"), (2, (2,), "a"), (3, (1, 1), "a"), (3, (1, 2), "a")])
        self.assertEqual(volume(body), (15, 2))

    def test_the_order_of_tools(self):
        found = document(inserted(HALF), inserted(SHIFT.format(1, 2)), inserted(SHIFT.format(2, 2)))
        body = make(found, [])[0]
        self.assertEqual([tool[2][0][0][1] for tool in body.tools][3:-1], [(1, 1), (1, 2), (2, 1), (2, 2)])

    def test_more_than_eight_tools(self):
        rows = [HALF, SHIFT.format(1, 3), SHIFT.format(2, 3)]
        self.assertEqual(last_state(*rows), "waits too many copies")
        self.assertEqual(last_state(HALF, SHIFT.format(1, 4), SHIFT.format(2, 2)), "made")
        self.assertEqual(last_state(HALF, SHIFT.format(1, 4), SHIFT.format(2, 2), SHIFT.format(3, 1)), "made")
        self.assertEqual(last_state(*rows, SHIFT.format(3, 1)), "waits feature 3 waits")
        # Tools of other features do not count.
        self.assertEqual(last_state(HALF, SHIFT.format(1, 4), SHIFT.format(1, 4), SHIFT.format(1, 4)), "made")

    def test_too_long_a_normal(self):
        mirror = MIRROR.format("{}", "(97, 99, 100)", '("1", "0", "0")')
        rows = ["keep half (89, 1, -93) at (\"1\", \"0\", \"0\");", mirror.format(1), mirror.format(2).replace("97", "83")]
        self.assertEqual(last_state(*rows[:2]), "made")
        self.assertEqual(last_state(*rows), "waits too long a normal")
        self.assertEqual(last_state(*rows, mirror.format(3)), "waits feature 3 waits")

    def test_the_bound_of_a_normal(self):
        for normal, wanted in [((1, 10 ** 9, 0), False), ((1, 0, -10 ** 9), False), ((1, 10 ** 9 + 1, 0), True),
                               ((0, 1, -10 ** 9 - 1), True), ((10 ** 9 + 1, 0, 1), True)]:
            sides = [((1, (), "half"), (0, 0, 1), ((0, 1), ()), True), ((1, (), "x"), normal, ((0, 1), ()), True)]
            self.assertIs(is_long(("cut", sides, ("side", 0))), wanted, normal)

    def test_names_of_mirrors(self):
        text = MIRROR.format(1, "(1, 0, 0)", '"{}"')
        for name, wanted in [("plane 1.b", "made"), ("face 1.b up", "made"), ("face 1.b by 1.a 1/1", "made"),
                             ("corner 1.a 1.b 1.low", "made"), ("plane 1.a", "waits plane 1.a does not fit"),
                             ("face 1.b down", "waits face 1.b down is lost"),
                             ("edge 1.a 1.b 1/1", "waits edge 1.a 1.b 1/1 does not fit"),
                             ("corner 1.a 1.c 1.low", "waits corner 1.a 1.c 1.low is lost")]:
            self.assertEqual(last_state(BLOCK, text.format(name)), wanted)
        body = make(document(inserted(BLOCK), inserted(text.format("plane 1.b"))), [])[0]
        self.assertEqual(volume(body), (72 + 24, 1))

    def test_the_copied_feature_comes_before_the_spot(self):
        found = document(inserted(BLOCK), inserted(BLOCK), inserted(MIRROR.format(1, "(1, 0, 0)", '"plane 2.a"')))
        self.assertEqual(states(found)[2], "waits plane 2.a is lost")
        self.assertEqual(states(behind(found, ("suppress", 1, True)))[2], "waits feature 1 waits")

    def test_the_spot_comes_before_the_normal(self):
        mirror = 'copy {} mirror (97, 99, 100) at "plane 1.half";'
        rows = ["keep half (89, 1, -93) at (\"1\", \"0\", \"0\");", mirror.format(1).replace('"plane 1.half"', '("1", "0", "0")')]
        self.assertEqual(last_state(*rows, mirror.format(2)), "waits plane 1.half is lost")


class Halves(unittest.TestCase):

    def test_names(self):
        for name, wanted in [("plane 1.d", "made"), ("face 1.d", "made"), ("plane 1.high", "waits plane 1.high does not fit"),
                             ("face 1.high by 1.a 1/1", "waits face 1.high by 1.a 1/1 does not fit"),
                             ("edge 1.a 1.d 1/1", "waits edge 1.a 1.d 1/1 does not fit"),
                             ("edge 1.a 1.d 1/2", "waits edge 1.a 1.d 1/2 is split"),
                             ("corner 1.a 1.d 1.low", "made"), ("face 1.d up", "waits face 1.d up is lost")]:
            self.assertEqual(last_state(BLOCK, PLANE.format(name)), wanted)
        self.assertEqual(last_state(BLOCK, SLOT, PLANE.format("face 1.high")), "waits face 1.high is split")
        self.assertEqual(last_state(BLOCK, SLOT, PLANE.format("face 1.b by 1.high 1/2")), "made")
        self.assertEqual(last_state(BLOCK, SLOT, PLANE.format("face 1.b by 1.high 1/1")), "waits face 1.b by 1.high 1/1 is split")

    def test_found_comes_before_fit(self):
        self.assertEqual(last_state(BLOCK, BLOCK, PLANE.format("plane 2.a")), "waits plane 2.a is lost")
        self.assertEqual(last_state(BLOCK, SLOT, PLANE.format("edge 1.b 1.high 1/1")), "waits edge 1.b 1.high 1/1 is split")

    def test_a_plane_is_moved_by_the_triple(self):
        for direction, name, worth in [((1, 0, 0), "plane 1.b", 9), ((-2, 0, 0), "face 1.b", 9), ((0, 3, 0), "plane 1.a", 5),
                                       ((0, 0, -1), "face 1.low down", 4)]:
            text = f'cut half {direction} at "{name}" plus ("1", "2", "3");'
            found = offsets(document(inserted(BLOCK), inserted(text)), 2, [])
            self.assertEqual(found, {"half": ((worth, 1), ())})

    def test_a_plane_through_a_corner(self):
        text = 'cut half (1, 2, -3) at "corner 1.b 1.c 1.high" plus ("1", "2", "3");'
        # The corner is (8, 7, 4), and from there (9, 9, 7).
        self.assertEqual(offsets(document(inserted(BLOCK), inserted(text)), 2, []), {"half": ((9 + 18 - 21, 1), ())})

    def test_a_spot_goes_along_with_the_parameters(self):
        block = BLOCK.replace('"8"', '"w"')
        found = document(declared("w", "8"), inserted(block), inserted('cut half (2, 0, 0) at "face 1.b" plus ("-1/2*w", "0", "0");'))
        self.assertEqual(offsets(found, 2, [(6, 1)]), {"half": ((0, 1), ((1, 2),))})
        self.assertEqual(volume(make(found, [(6, 1)])[0]), (12, 1))
        self.assertEqual(volume(make(found, [(8, 1)])[0]), (24, 1))

    def test_a_name_goes_where_it_goes_at_the_setting(self):
        # At w = 8 the cut misses the block, and there is no face of it.
        found = document(declared("w", "8"), inserted(BLOCK), inserted('cut half (1, 0, 0) at ("w", "0", "0");'),
                         inserted('add half (1, 0, 0) at "face 2.half" plus ("1", "0", "0");'))
        self.assertEqual(states(found, (8, 1)), ["made", "made", "waits face 2.half is lost"])
        self.assertEqual(states(found, (7, 1)), ["made", "made", "made"])
        self.assertEqual(offsets(found, 3, [(7, 1)]), {"half": ((1, 1), ((1, 1),))})

    def test_only_features_in_front_count(self):
        found = document(inserted(BLOCK), inserted(PLANE.format("face 1.high by 1.a 1/1").replace("(1, 0, 0)", "(0, 0, 1)")),
                         inserted(SLOT), inserted('cut half (0, 0, 1) at "face 1.high";'))
        self.assertEqual(states(found), ["made", "made", "made", "waits face 1.high is lost"])
        found = behind(found, ("suppress", 2, True))
        self.assertEqual(states(found), ["made", "suppressed", "made", "waits face 1.high is split"])
        self.assertEqual(states(behind(found, ("suppress", 3, True)))[-1], "made")

    def test_sides_of_the_room(self):
        found = document(inserted('add half (1, 0, 0) at ("4", "0", "0");'), inserted('cut half (1, 0, 0) at "plane 0.xh" plus ("-1", "0", "0");'))
        self.assertEqual(offsets(found, 2, []), {"half": ((9, 1), ())})


class Sketches(unittest.TestCase):

    def test_the_spot_must_be_a_corner(self):
        for name, wanted in [("corner 1.a 1.d 1.high", "made"), ("plane 1.a", "waits plane 1.a does not fit"),
                             ("face 1.a", "waits face 1.a does not fit"),
                             ("edge 1.a 1.d 1/1", "waits edge 1.a 1.d 1/1 does not fit"),
                             ("face 1.a by 1.b 1/1", "waits face 1.a by 1.b 1/1 does not fit"),
                             ("face 1.a up", "waits face 1.a up is lost")]:
            self.assertEqual(last_state(BLOCK, sketch_text(spot=f'"{name}"')), wanted)

    def test_a_base_at_a_corner(self):
        text = sketch_text(spot='"corner 1.a 1.d 1.high" plus ("1", "0", "-2")', start='"0"', stop='"3"')
        found = document(inserted(BLOCK), inserted(text))
        # The corner is (2, 3, 4), the base (3, 3, 2).
        self.assertEqual(offsets(found, 2, []), {"a": ((6, 1), ()), "b": ((11, 1), ()), "c": ((10, 1), ()),
                                                 "d": ((5, 1), ()), "low": ((2, 1), ()), "high": ((5, 1), ())})

    def test_lines_that_are_over_or_free(self):
        text = sketch_text(dims='dim a to c along (0, 1) "4"; dim a to c along (0, 2) "3"; dim corner a b at u "9";')
        self.assertEqual(last_state(text), "waits over: 2")
        self.assertEqual(last_state(text.replace('"3"; dim corner', '"2"; dim corner')), "waits over: 3")
        rows = 'dim a to c along (0, 1) "4"; dim a to c along (0, 2) "3";'
        free = sketch_text(dims=rows).replace(' through "0" "3"', "").replace(' through "0" "7"', "")
        self.assertEqual(last_state(free), "waits over: 1, 2")
        self.assertEqual(last_state(free.replace('"3"', '"2"')), "waits free: a, c")

    def test_the_order_of_the_reasons(self):
        sketch = sketch_text(spot='"plane 2.half"', start='on "face 3.half"', stop='on "plane 3.half"')
        free = sketch.replace(' through "0" "3"', "")
        halves = ['cut half (1, 0, 0) at ("4", "0", "0");', 'cut half (1, 0, 0) at ("5", "0", "0");']
        block = 'add half (1, 0, 0) at ("1", "0", "0");'
        self.assertEqual(last_state(block, *halves, free), "waits plane 2.half does not fit")
        free = free.replace('"plane 2.half"', '("0", "0", "0")')
        self.assertEqual(last_state(block, *halves, free), "waits free: a")
        ends = sketch.replace('"plane 2.half"', '("0", "0", "0")')
        self.assertEqual(last_state(block, *halves, ends), "waits face 3.half is lost")
        self.assertEqual(last_state(block, *halves, ends.replace("face 3.half", "plane 2.half")), "waits plane 2.half does not fit")
        ends = ends.replace("face 3.half", "plane 0.zl")
        self.assertEqual(last_state(block, *halves, ends), "waits plane 3.half is lost")
        self.assertEqual(last_state(block, *halves, ends.replace("plane 3.half", "face 0.zh")), "made")

    def test_ends_on_names(self):
        for name, wanted in [("plane 1.high", "made"), ("face 1.high up", "made"), ("face 1.high by 1.a 1/1", "made"),
                             ("plane 1.a", "waits plane 1.a does not fit"), ("face 1.b", "waits face 1.b does not fit"),
                             ("corner 1.a 1.b 1.low", "waits corner 1.a 1.b 1.low does not fit"),
                             ("edge 1.a 1.low 1/1", "waits edge 1.a 1.low 1/1 does not fit"),
                             ("face 1.high by 1.a 1/2", "waits face 1.high by 1.a 1/2 is split")]:
            for ends in ({"start": f'on "{name}"', "stop": '"9"'}, {"stop": f'on "{name}"'}):
                self.assertEqual(last_state(BLOCK, sketch_text(**ends)), wanted)

    def test_an_end_on_a_slope(self):
        slope = 'cut half (1, 0, 2) at ("0", "0", "6");'
        text = sketch_text("add", start='on "plane 2.half"', stop='"9"')
        # The slope leads from z = 5 at x = 2 to z = 2 at x = 8.
        body = make(document(inserted('add half (0, 0, -1) at ("0", "0", "6");'), inserted(slope), inserted(text)), [])[0]
        low = make(document(inserted('add half (0, 0, -1) at ("0", "0", "6");'), inserted(slope)), [])[0]
        self.assertEqual(volume(body)[0] - volume(low)[0], 24 * (9 - 3) - 12)

    def test_ends_go_along_with_the_parameters(self):
        block = BLOCK.replace('to "4"', 'to "h"')
        found = document(declared("h", "4"), inserted(block), inserted(sketch_text(start='on "plane 1.high"', stop='"9"')))
        self.assertEqual(offsets(found, 2, [(4, 1)])["low"], ((0, 1), ((1, 1),)))
        self.assertEqual(offsets(found, 2, [(4, 1)])["high"], ((9, 1), ((0, 1),)))


STEP = ('add at ("0", "0", "0") u (1, 0, 0) v (0, 1, 0) w (0, 0, 1) { line a (1, 0) through "0" "1"; line b (0, 1) through "8" "0";'
        ' line c (-1, 0) through "0" "9"; line d (0, -1) through "2" "0"; line e (0, 1) through "w" "0";'
        ' line f (1, 0) through "0" "5"; } area left a & left c & left d & (!left f & left b | left f & left e);'
        ' from "1" to "4";')


class Along(unittest.TestCase):
    """Point 49: what a plane that is needed goes along with; at w = 8 the sides b and e lie on one plane."""

    def step(self, text, sides, *more):
        found = document(declared("w", "8"), inserted(STEP), inserted(text))
        return behind(found, ("change", 1, STEP, [("b", sides), ("e", sides), *more]))

    def test_the_first_origin_of_the_list_that_has_a_flat_place_there(self):
        text = 'cut half (1, 0, 0) at "plane 1.b" plus ("-1", "0", "0");'
        fixed, moving = ((7, 1), ((0, 1),)), ((-1, 1), ((1, 1),))
        self.assertEqual(offsets(self.step(text, ["b", "e"]), 2, [(8, 1)]), {"half": fixed})
        self.assertEqual(offsets(self.step(text, ["e", "b"]), 2, [(8, 1)]), {"half": moving})
        self.assertEqual(offsets(self.step(text, ["low", "e", "b"]), 2, [(8, 1)]), {})
        self.assertEqual(offsets(self.step(text.replace("plane 1.b", "face 1.b"), ["e", "b"]), 2, [(8, 1)]), {"half": moving})

    def test_origins_without_a_flat_place_there_are_passed_over(self):
        # Half of the step is cut away, and b has no flat place any more.
        text = 'cut half (1, 0, 0) at "plane 1.b" plus ("-1", "0", "0");'
        found = document(declared("w", "8"), inserted(STEP), inserted('cut half (0, -1, 0) at ("0", "5", "0");'), inserted(text))
        found = behind(found, ("change", 1, STEP, [("b", ["b", "e"])]))
        self.assertEqual(offsets(found, 3, [(8, 1)]), {"half": ((-1, 1), ((1, 1),))})

    def test_only_the_plane_that_is_found_counts(self):
        # The face of low and high that looks up is that of high, wherever low stands in the list.
        text = 'cut half (0, 0, 1) at "face 1.high up" plus ("0", "0", "-1");'
        block = STEP.replace('to "4"', 'to "w - 4"')
        for name, offset in [("face 1.high up", ((-5, 1), ((1, 1),))), ("face 1.high down", ((0, 1), ((0, 1),)))]:
            found = document(declared("w", "8"), inserted(block), inserted(text.replace("face 1.high up", name)),
                             ("change", 1, block, [("high", ["low", "high"])]))
            self.assertEqual(offsets(found, 2, [(8, 1)]), {"half": offset})

    def test_only_what_is_at_the_corner_counts(self):
        # At (8, 9, 4) there is e, but not b, which has flat places elsewhere.
        base = 'cut at "corner 1.b 1.c 1.high" u (1, 0, 0) v (0, 1, 0) w (0, 0, 1) { line a (0, 1) through "0" "0"; }' \
               ' area left a; from "0" to "1";'
        self.assertEqual(offsets(self.step(base, ["b", "d", "e"]), 2, [(8, 1)]), {})
        self.assertEqual(offsets(self.step(base, ["b", "e"]), 2, [(8, 1)])["a"], ((0, 1), ((1, 1),)))

    def test_the_first_place_of_a_face_by_an_edge(self):
        text = 'cut half (1, 0, 0) at "face 1.b by 1.high 1/1";'
        for sides, offset in [(["b", "e"], ((8, 1), ((0, 1),))), (["e", "b"], ((0, 1), ((1, 1),)))]:
            self.assertEqual(offsets(self.step(text, sides), 2, [(8, 1)]), {"half": offset})

    def test_corners(self):
        # Both b and e end at the corner (8, 5, 3) of a notch.
        notch = block_text("cut", (7, 9), (5, 6), (3, 5))
        base = 'cut at "corner 1.b 2.a 2.low" u (1, 0, 0) v (0, 1, 0) w (0, 0, 1) { line a (0, 1) through "0" "0"; }' \
               ' area left a; from "0" to "1";'
        found = document(declared("w", "8"), inserted(STEP), inserted(notch), inserted(base))
        for sides, offset in [(["b", "e"], ((8, 1), ((0, 1),))), (["e", "b"], ((0, 1), ((1, 1),))),
                              (["c", "low", "e"], ((0, 1), ((1, 1),)))]:
            made = behind(found, ("change", 1, STEP, [("b", sides)]))
            self.assertEqual(offsets(made, 3, [(8, 1)])["a"], offset)

    def test_the_last_place_goes_on_first(self):
        # At w = 8 the lines b, c and e meet at (8, 9), and all three end something there.
        star = STEP.replace('line e (0, 1) through "w" "0"', 'line e (1, 1) through "w" "9"')
        star = star.replace("left a & left c & left d & (!left f & left b | left f & left e)",
                            "left a & left d & left b & (right c | right e)")
        base = 'cut at "corner 1.b 1.c 1.high" u (1, 0, 0) v (0, 1, 0) w (0, 0, 1) { line a (0, 1) through "0" "0";' \
               ' line b (1, 0) through "0" "0"; } area left a; from "0" to "1";'
        found = document(declared("w", "8"), inserted(star), inserted(base))
        by_b, by_c = ((8, 1), ((0, 1),)), ((9, 1), ((0, 1),))
        x_by_e, y_by_e = ((0, 1), ((1, 1),)), ((17, 1), ((-1, 1),))
        for first, second, x, y in [("be", "ce", by_b, by_c), ("be", "ec", by_b, y_by_e), ("eb", "cb", x_by_e, by_c),
                                    ("be", "bc", by_b, by_c), ("eb", "ec", x_by_e, by_c), ("af", "ce", None, None)]:
            made = behind(found, ("change", 1, star, [("b", list(first)), ("c", list(second))]))
            told = offsets(made, 2, [(8, 1)])
            self.assertEqual((told.get("a"), told.get("b")), (x, y), (first, second))


if __name__ == "__main__":
    unittest.main()
