"""Points 20 and 21: features as they are told by texts."""

import unittest

from helpers import FaultCase
from truepart.features import read_feature
from truepart.nametexts import read_name
from truepart.numbers import fraction

NAMES = ["w", "h"]

SKETCH = """add at ("0", "1/2", "w") u (1, 0, 0) v (0, 1, 0) w (0, 0, 1) {
  line a (0, 1) through "0" "h";
  line b (0, -2);
  line c (1, 0) through "1" "2";
  line d (-3, 0);
  dim a to b along (1, 1) "w - 2";
  dim corner a c at u "5";
  dim corner a c to corner b d along v "-h";
} area left a & !(right b | left c) | right d; from "0" to on "plane 1.high";
"""
HALF = 'cut half (1, -2, 3) at ("1", "w", "0");\n'
SHIFT = 'copy 3 shift ("1", "0", "h") times 2;\n'
MIRROR = 'copy 12 mirror (0, 0, -1) at "corner 1.a 1.b 1.low" plus ("0", "0", "1");\n'


def worth(base, *slopes):
    return (fraction(*base), tuple(fraction(*slope) for slope in (slopes or ((0, 1), (0, 1)))))


ZERO = worth((0, 1))
ONE = worth((1, 1))
W = worth((0, 1), (1, 1), (0, 1))
H = worth((0, 1), (0, 1), (1, 1))


def read(text):
    return read_feature(list(NAMES), text)


def sketch(inside, area="left a"):
    return 'add at ("0","0","0") u (1,0,0) v (0,1,0) w (0,0,1) {' + inside + '} area ' + area + '; from "0" to "1";'


def lines(many):
    return "".join(f"line {name} ({at}, 1);" for at, name in enumerate("abcdefgh"[:many]))


class Sketches(unittest.TestCase):

    def test_all_parts(self):
        found = read(SKETCH)
        self.assertEqual(found, {
            "op": "add",
            "spot": (None, (ZERO, worth((1, 2)), W)),
            "u": (1, 0, 0), "v": (0, 1, 0), "w": (0, 0, 1),
            "lines": [("a", (0, 1), (ZERO, H)), ("b", (0, -2), None),
                      ("c", (1, 0), (ONE, worth((2, 1)))), ("d", (-3, 0), None)],
            "dimensions": [
                ("apart", 0, 1, (1, 1), worth((-2, 1), (1, 1), (0, 1))),
                ("at", 0, 2, "u", worth((5, 1))),
                ("between", 0, 2, 1, 3, "v", worth((0, 1), (0, 1), (-1, 1)))],
            "area": ("either", ("both", ("left", "a"), ("not", ("either", ("right", "b"), ("left", "c")))), ("right", "d")),
            "from": (None, ZERO),
            "to": (("plane", ((1, (), "high"),), "", None), None)})

    def test_kinds_of_values(self):
        found = read(SKETCH)
        for key in ("lines", "dimensions"):
            self.assertIsInstance(found[key], list)
            for row in found[key]:
                self.assertIsInstance(row, tuple)
        for key in ("spot", "u", "v", "w", "area", "from", "to"):
            self.assertIsInstance(found[key], tuple)

    def test_ops(self):
        for op in ("add", "cut", "keep"):
            self.assertEqual(read(op + SKETCH[3:])["op"], op)
            self.assertEqual(read(op + HALF[3:])["op"], op)

    def test_no_lines_but_one_and_no_dimensions(self):
        found = read(sketch("line a (1, 0);"))
        self.assertEqual((found["lines"], found["dimensions"]), ([("a", (1, 0), None)], []))
        self.assertEqual((found["from"], found["to"]), ((None, ZERO), (None, ONE)))

    def test_gaps(self):
        text = SKETCH.replace(" ", "\n # one ; more }\n ").replace('"w\n # one ; more }\n -\n # one ; more }\n 2"', '"w - 2"')
        text = text.replace('"plane\n # one ; more }\n 1.high"', '"plane 1.high"')
        self.assertEqual(read(text), read(SKETCH))
        self.assertEqual(read("# first\n\n" + HALF + "# last"), read(HALF))

    def test_spots(self):
        corner = read_name("corner 1.a 1.b 1.low")
        for text, spot in [
                ('("w", "0", "1")', (None, (W, ZERO, ONE))),
                ('"corner 1.a 1.b 1.low"', (corner, (ZERO, ZERO, ZERO))),
                ('"corner 1.low 1.a 1.b" plus ("0", "h", "1")', (corner, (ZERO, H, ONE))),
                ('"plane 2.3.half" plus ("0", "0", "0")', (read_name("plane 2.3.half"), (ZERO, ZERO, ZERO)))]:
            self.assertEqual(read("cut half (1, 0, 0) at " + text + ";")["spot"], spot)
            self.assertEqual(read(SKETCH.replace('("0", "1/2", "w")', text))["spot"], spot)
            self.assertEqual(read("copy 1 mirror (1, 0, 0) at " + text + ";")["spot"], spot)

    def test_ends(self):
        found = read(SKETCH.replace('from "0" to on "plane 1.high"', 'from on "face 2.a by 1.b 1/2 up" to "w - 1"'))
        self.assertEqual(found["from"], (read_name("face 2.a by 1.b 1/2 up"), None))
        self.assertEqual(found["to"], (None, worth((-1, 1), (1, 1), (0, 1))))

    def test_no_parameters(self):
        found = read_feature([], 'keep half (0, 0, 1) at "plane 1.a";')
        nought = ((0, 1), ())
        self.assertEqual(found["spot"], (read_name("plane 1.a"), (nought, nought, nought)))

    def test_most_lines_and_dimensions(self):
        inside = lines(6) + 'dim corner a b at u "1";' * 8
        found = read(sketch(inside))
        self.assertEqual((len(found["lines"]), len(found["dimensions"])), (6, 8))

    def test_greatest_parts(self):
        self.assertEqual(read("cut half (100, -100, 0) at (\"0\", \"0\", \"0\");")["direction"], (100, -100, 0))
        self.assertEqual(read(sketch("line a (-100, 100);"))["lines"][0][1], (-100, 100))

    def test_lines_with_the_names_of_words(self):
        words = ("line", "dim", "corner", "to", "at", "along")
        inside = "".join(f"line {word} ({at}, 1);" for at, word in enumerate(words))
        found = read(sketch(inside + 'dim corner corner to at v "1";', "left line & right dim | left corner"))
        self.assertEqual([line[0] for line in found["lines"]], list(words))
        self.assertEqual(found["dimensions"], [("at", 2, 3, "v", ONE)])
        inside = 'line corner (1, 0); line corners (2, 0); line area (0, 1); line left (0, 1);'
        found = read(sketch(inside + 'dim corners to corner along (0, 1) "1";', "left left"))
        self.assertEqual(found["dimensions"], [("apart", 1, 0, (0, 1), ONE)])
        found = read(sketch(inside + 'dim corner corner area to corner corners left along u "1";', "right area"))
        self.assertEqual(found["dimensions"], [("between", 0, 2, 1, 3, "u", ONE)])

    def test_names_do_not_change(self):
        names = list(NAMES)
        read_feature(names, SKETCH)
        self.assertEqual(names, NAMES)


class HalvesAndCopies(unittest.TestCase):

    def test_half(self):
        self.assertEqual(read(HALF), {"op": "cut", "direction": (1, -2, 3), "spot": (None, (ONE, W, ZERO))})

    def test_shift(self):
        self.assertEqual(read(SHIFT), {"op": "copy", "of": 3, "shift": (ONE, ZERO, H), "count": 2})
        for count in (1, 4):
            self.assertEqual(read(SHIFT.replace("times 2", f"times {count}"))["count"], count)
        self.assertEqual(read(SHIFT.replace("copy 3", "copy 1000000"))["of"], 1000000)
        self.assertEqual(read(SHIFT.replace("copy 3", "copy 1"))["of"], 1)

    def test_mirror(self):
        self.assertEqual(read(MIRROR), {
            "op": "copy", "of": 12, "direction": (0, 0, -1),
            "spot": (read_name("corner 1.a 1.b 1.low"), (ZERO, ZERO, ONE))})


class Faults(FaultCase):

    def refused(self, text):
        """The fault is where the text has an @, which is left out."""
        front, _, back = text.partition("@")
        line = front.count("\n") + 1
        self.assert_fault(line, len(front.rpartition("\n")[2]) + 1, read, front + back)

    def broken(self, text, *pairs):
        """Each pair is a part of a good text, and what stands there instead, with an @ where the fault is."""
        read(text)
        for old, new in pairs:
            self.assertIn(old, text)
            self.refused(text.replace(old, new, 1))

    def test_each_token_missing_or_too_many(self):
        for text in (SKETCH, HALF, SHIFT, MIRROR):
            parts = tokens_of(text)
            read(" ".join(parts))
            for at in range(len(parts)):
                self.refused(" ".join(parts[:at]) + "@")
                self.refused(" ".join(parts[:at]) + " \n @")
                self.refused(" ".join(parts[:at] + ["@/"] + parts[at + 1:]))
                self.refused(" ".join(parts[:at] + ["@/"] + parts[at:]))
            self.refused(" ".join(parts) + " @/")

    def test_behind_the_text(self):
        self.refused(SKETCH + "@;")
        self.refused(HALF + " # more\n  @cut")
        self.refused(SHIFT + '@"')
        self.refused(MIRROR + "@7")

    def test_the_empty_text(self):
        for line, column, text in [(1, 1, ""), (1, 3, "  "), (2, 1, "\n"), (1, 4, "# a")]:
            self.assert_fault(line, column, read, text)
        self.assert_fault(1, 4, read, "add")
        self.assert_fault(2, 1, read, "add\n")

    def test_tokens_in_place_of_others(self):
        self.broken(
            SKETCH, ("add", "@left"), ("add", "@Add"), ("add", '@"add"'), ("add at", "add @at2"), ("add at", "add @shift"),
            ('("0", "1', '@7("0", "1'), ('("0", "1', '("0" @; "1'), ('"1/2", "w")', '"1/2" @"w")'), ('"w")', '"w" @, "w")'),
            ("u (1", "@v (1"), ("u (1", 'u @"x"(1'), ("(1, 0, 0)", '(1, @"0", 0)'), ("(1, 0, 0)", "(1, 0@)"),
            ("(1, 0, 0)", "(1, 0, 0@, 0)"), ("{", "@("), ("line a", "line @1"), ("line a", 'line @"a"'),
            ("(0, 1) t", "(0@) t"), ("(0, 1) t", "(0, 1@, 2) t"), ("through", "@to"), ('"0" "h"', '"0" @, "h"'),
            ('"0" "h"', '"0" @; "h"'), ("dim a to", "dim a @at"), ("dim a", 'dim @"a"'), ("along (", "@on ("),
            ('(1, 1) "w', '@"w'), ("corner a c at u", "corner a c at @w"), ("corner a c at u", "corner a c @on u"),
            ("corner a c at u", 'corner a c at @"u"'), ("to corner b d", "to @corners b d"), ("to corner b d", "to @b d"),
            ("d along v", "d @at v"), ("d along v", "d along @w"), ("d along v", "d along @(1, 0)"),
            ("} area", "@line e (1, 1); } area"), ("} area", "@) area"), ("area left", "@left"), ("area left", "area @;"),
            ("d; from", "d @from"), ("d; from", "d; @to"), ('from "0"', 'from @("0")'), ('to on "plane', 'to @to "plane'),
            ('on "plane 1.high"', 'on @plane'), ('high";', 'high" @plus;'))
        self.broken(
            HALF, ("half", "@halves"), ("half (", 'half @"plane 1.a" ('), ("at", "@to"), (';', ' @plus ("0", "0", "0");'),
            ("(1, -2, 3)", "(1, -2@)"))
        self.broken(
            SHIFT, ("copy", "@Copy"), ("3", "@three"), ("3", '@"3"'), ("shift", "@move"), ("times", "@count"),
            ('("1"', '@"plane 1.a" ("1"'), ("times 2", 'times @"2"'), ("2;", "2 @2;"))
        self.broken(
            MIRROR, ("mirror", "@mirrored"), ("at", "@plus"), ("plus", "@and"), ('plus (', 'plus @"x" ('), ("(0, 0, -1)", "@{0"))

    def test_characters_come_first(self):
        self.refused("left 7 ; @?")
        self.refused(SKETCH.replace("add", "sum") + "@007")
        self.refused(SKETCH.replace("(1, 0, 0)", "(0, 0, 0)").replace("-3", "@-0"))
        self.assert_fault(1, 1, read, HALF + " " * 2000)
        text = HALF + " " * (2000 - len(HALF))
        self.assertEqual(read(text), read(HALF))
        self.assert_fault(1, 1, read, text + " ")

    def test_expressions(self):
        for bad in ("", "x", "1/0", "w h", "999999999999 + 1", "1 +", "plane 1.a", "1234567890123"):
            self.broken(
                SKETCH, ('"1/2"', f'@"{bad}"'), ('"h"', f'@"{bad}"'), ('"w - 2"', f'@"{bad}"'), ('"5"', f'@"{bad}"'),
                ('"-h"', f'@"{bad}"'), ('from "0"', f'from @"{bad}"'), ('through "1"', f'through @"{bad}"'))
            self.broken(HALF, ('"w"', f'@"{bad}"'))
            self.broken(SHIFT, ('"h"', f'@"{bad}"'))
            self.broken(MIRROR, ('"1"', f'@"{bad}"'))

    def test_names(self):
        for bad in ("", "1", "plane 1", "plane 01.a", "corner 1.a 1.b 1.a", "face 1.a by 1.b 2/1"):
            self.broken(SKETCH, ('"plane 1.high"', f'@"{bad}"'), ('("0", "1/2", "w")', f'@"{bad}"'))
            self.broken(MIRROR, ('"corner 1.a 1.b 1.low"', f'@"{bad}"'))
            self.broken(HALF, ('("1", "w", "0")', f'@"{bad}" plus ("1", "w", "0")'))

    def test_directions_and_pairs(self):
        for bad in ("(0, 0, 0)", "(101, 0, 0)", "(0, -101, 0)", "(1, 1, 1000000)"):
            for axis in ("u (1, 0, 0)", "v (0, 1, 0)", "w (0, 0, 1)"):
                self.broken(SKETCH, (axis, axis[:2] + "@" + bad))
            self.broken(HALF, ("(1, -2, 3)", "@" + bad))
            self.broken(MIRROR, ("(0, 0, -1)", "@" + bad))
        for bad in ("(0, 0)", "(101, 0)", "(1, -101)"):
            self.broken(SKETCH, ("line a (0, 1)", "line a @" + bad), ("line b (0, -2)", "line b @" + bad))
            self.broken(SKETCH, ("along (1, 1)", "along @" + bad))

    def test_directions_are_judged_when_they_are_read(self):
        self.broken(SKETCH, ("u (1, 0, 0) v", "u (0, 0, 0 @v"), ("u (1, 0, 0) v", "u @(0, 0, 0) u"))
        self.broken(SKETCH, ("(0, 1) t", "(0, 0 @t"), ("(0, 1) t", "@(0, 0) w"))

    def test_directions_with_the_triple_product_nought(self):
        self.broken(
            SKETCH, ("w (0, 0, 1)", "w (1, 1, 0@)"), ("w (0, 0, 1)", "w (-1, 0, 0  @)"),
            ("u (1, 0, 0) v (0, 1, 0) w (0, 0, 1)", "u (1, 0, 0) v (2, 0, 0) w (0, 0, 1@)"),
            ("w (0, 0, 1)", "w @(0, 0, 0)"), ("w (0, 0, 1)", "w @(101, 101, 0)"), ("w (0, 0, 1) {", "w (1, 1, 0@) ("))
        self.assertEqual(read(SKETCH.replace("w (0, 0, 1)", "w (7, 5, -1)"))["w"], (7, 5, -1))

    def test_names_of_lines(self):
        for bad in ("A", "low", "high", "half", "Line", "a2345678901234567", "b"):
            self.broken(SKETCH, ("line c", "line @" + bad), ("line c (1", f"line @{bad} (0, 0) (1"))
        self.assertEqual(read(sketch("line a (1, 0); line a234567890123456 (1, 0);"))["lines"][1][0], "a234567890123456")

    def test_the_seventh_line(self):
        self.refused(sketch(lines(6) + "line @g (1, 1);"))
        self.refused(sketch(lines(6) + "line @a (0, 0);"))
        self.refused(sketch(lines(6) + "line @7"))

    def test_the_ninth_dimension(self):
        self.refused(sketch(lines(2) + 'dim corner a b at u "1";' * 8 + '@dim corner a b at u "1";'))
        self.refused(sketch(lines(2) + 'dim corner a b at u "1";' * 8 + "@dim ;"))

    def test_lines_that_are_not_there(self):
        self.broken(
            SKETCH, ("dim a", "dim @e"), ("to b along", "to @e along"), ("corner a c at", "corner @e c at"),
            ("corner a c at", "corner a @e at"), ("to corner b d", "to corner @e d"), ("to corner b d", "to corner b @e"),
            ("area left a", "area left @e"), ("left c", "left @low"), ("dim a", "dim @A"), ("dim a", "dim @low"),
            ("corner a c at", "corner a @u at"))
        self.refused(sketch("", "left @a"))
        self.refused(sketch('line b (1, 0); dim @a to b along (0, 1) "1"; line a (1, 0);'))

    def test_dim_corner_is_never_a_line(self):
        inside = "line corner (1, 0); line a (2, 0); dim corner @to a along (0, 1) \"1\";"
        self.refused(sketch(inside))

    def test_lines_of_a_corner_that_are_parallel(self):
        self.broken(
            SKETCH, ("corner a c at", "corner @a b at"), ("corner a c at", "corner @a a at"), ("corner a c at", "corner @b a at"),
            ("to corner b d", "to corner @c d"), ("to corner b d", "to corner @d d"), ("corner a c to", "corner @c d to"),
            ("corner a c at u", "corner @a b on u"), ("corner a c at", "corner a @e at"))
        self.refused(sketch('line a (2, 3); line b (-4, -6); dim corner @b a at u "1";'))

    def test_lines_that_are_not_apart(self):
        self.broken(
            SKETCH, ("a to b along (1, 1)", "a to a along (1, 1@)"), ("a to b along (1, 1)", "a to c along (1, 1 @)"),
            ("a to b along (1, 1)", "a to b along (0, 5@)"), ("a to b along (1, 1)", "a to b along (0, -1@)"),
            ("a to b along (1, 1)", "a to c along @(0, 0)"), ("a to b along (1, 1)", "a to a along @(0, 101)"),
            ("a to b along (1, 1)", "a to @e along (1, 1)"), ('a to b along (1, 1) "w', 'a to b along (0, 1@) "?w'))
        self.refused(sketch('line a (2, 3); line b (-4, -6); dim a to b along (6, 9@) "1";'))
        self.assertEqual(read(sketch('line a (2, 3); line b (-4, -6); dim a to b along (6, 8) "1";'))["dimensions"][0][:4],
                         ("apart", 0, 1, (6, 8)))

    def test_copied_features(self):
        self.broken(SHIFT, ("copy 3", "copy @0"), ("copy 3", "copy @-1"), ("copy 3", "copy @-1000000"),
                    ("copy 3 shift", "copy @0 move"))
        self.broken(MIRROR, ("copy 12", "copy @0"))

    def test_counts(self):
        for bad in ("0", "5", "-1", "1000000"):
            self.broken(SHIFT, ("times 2", "times @" + bad), ("times 2;", f"times @{bad}"))

    def test_too_deep(self):
        self.refused(sketch(lines(1), "!" * 20 + "@!left a"))
        self.refused(sketch(lines(1), "(" * 20 + "@(left a"))
        self.assertEqual(read(sketch(lines(1), "(" * 20 + "left a" + ")" * 20))["area"], ("left", "a"))

    def test_the_first_fault_counts(self):
        text = SKETCH.replace('"1/2"', '"x"').replace("(1, 0, 0)", "(0, 0, 0)").replace("line b", "line a")
        self.refused(text.replace('"x"', '@"x"'))
        text = SKETCH.replace("(1, 0, 0)", "(0, 0, 0)").replace("line b", "line low") + "}"
        self.refused(text.replace("(0, 0, 0)", "@(0, 0, 0)"))
        self.refused(SKETCH.replace("line b", "line @a").replace("left a", "left x"))
        self.refused(SKETCH.replace("left a", "left @x").replace("plane 1", "plain 1") + ";")
        self.refused(SKETCH.replace('"plane 1', '@"plain 1') + ";")
        self.refused(SHIFT.replace("3", "@0").replace("2", "9"))


def tokens_of(text):
    """The tokens of a good text, as texts."""
    found, at = [], 0
    while at < len(text):
        if text[at] in " \n":
            at += 1
            continue
        end = at + 1
        if text[at] == '"':
            end = text.index('"', at + 1) + 1
        elif text[at].isalpha():
            while end < len(text) and text[end].isalnum():
                end += 1
        elif text[at] in "-0123456789":
            while end < len(text) and text[end].isdigit():
                end += 1
        found.append(text[at:end])
        at = end
    return found


if __name__ == "__main__":
    unittest.main()
