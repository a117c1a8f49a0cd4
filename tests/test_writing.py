"""Point 23: features written again; their names and sides."""

import unittest

from helpers import FaultCase
from test_features import HALF, MIRROR, NAMES, SHIFT, SKETCH, sketch
from truepart.features import read_feature
from truepart.nametexts import read_name
from truepart.numbers import fraction
from truepart.writing import feature_text, rewritten, side_names, spots

ZERO = ((0, 1), ((0, 1), (0, 1)))
ONE = ((1, 1), ((0, 1), (0, 1)))
W = ((0, 1), ((1, 1), (0, 1)))


def again(text):
    return rewritten(list(NAMES), text)


class Writing(FaultCase):

    def test_good_texts_stay(self):
        for text in (SKETCH, HALF, SHIFT, MIRROR):
            self.assertEqual(again(text), text)
            self.assertEqual(feature_text(NAMES, read_feature(NAMES, text)), text)

    def test_blanks_and_line_feeds(self):
        text = ('add\n\nat("w+0",  "2/4" ,"-0")u(1,0,0)v(0,1,0)w(0,0,1){line a(0,1)through"1-w""h";line b(1,-2);'
                'dim\ncorner a b at v"1*h" # the only one\n;}area(left a&!(left b))|right a;'
                'from on"face 1.a by 1.b 1/1"to"1";')
        self.assertEqual(again(text), (
            'add at ("w", "1/2", "0") u (1, 0, 0) v (0, 1, 0) w (0, 0, 1) {\n'
            '  line a (0, 1) through "-w + 1" "h";\n'
            '  line b (1, -2);\n'
            '  dim corner a b at v "h";\n'
            '} area left a & !left b | right a; from on "face 1.a by 1.b 1/1" to "1";\n'))

    def test_each_dimension(self):
        inside = ('line a (1, 0); line b (0, 1); line c (2, 0); line d (0, -1);'
                  'dim c to a along (5, -3) "1";dim corner b c at u "w";dim corner d c to corner a b along v "2";')
        self.assertEqual(again(sketch(inside)), (
            'add at ("0", "0", "0") u (1, 0, 0) v (0, 1, 0) w (0, 0, 1) {\n'
            '  line a (1, 0);\n'
            '  line b (0, 1);\n'
            '  line c (2, 0);\n'
            '  line d (0, -1);\n'
            '  dim c to a along (5, -3) "1";\n'
            '  dim corner b c at u "w";\n'
            '  dim corner d c to corner a b along v "2";\n'
            '} area left a; from "0" to "1";\n'))

    def test_halves_and_copies(self):
        self.assertEqual(again('keep half(0,-1,0)at"corner 2.b 1.a 1.b";# x'),
                         'keep half (0, -1, 0) at "corner 1.a 1.b 2.b";\n')
        self.assertEqual(again('copy 7\nshift("1+1","w","0")times 4;'), 'copy 7 shift ("2", "w", "0") times 4;\n')
        self.assertEqual(again('copy 7 mirror(1,1,1)at("0","0","0");'), 'copy 7 mirror (1, 1, 1) at ("0", "0", "0");\n')

    def test_plus(self):
        front = 'cut half (1, 0, 0) at "plane 1.a"'
        self.assertEqual(again(front + ' plus ("0", "0", "0");'), front + ";\n")
        self.assertEqual(again(front + ' plus ("w - w", "0*h", "1 - 1");'), front + ";\n")
        self.assertEqual(again(front + ";"), front + ";\n")
        for triple in ('("1", "0", "0")', '("0", "w", "0")', '("0", "0", "-1/2*h + 1")'):
            self.assertEqual(again(front + " plus " + triple + ";"), front + " plus " + triple + ";\n")
        self.assertEqual(again(SKETCH.replace('("0", "1/2", "w")', '"plane 1.a" plus ("0", "0", "0")')),
                         SKETCH.replace('("0", "1/2", "w")', '"plane 1.a"'))
        self.assertEqual(again('cut half (1, 0, 0) at ("0", "0", "0");'), 'cut half (1, 0, 0) at ("0", "0", "0");\n')

    def test_what_is_written_is_read_as_the_same(self):
        for text in (SKETCH, HALF, SHIFT, MIRROR,
                     sketch("line a (1, 2); line b (3, 4);", "left a & (left b & !(right a | right b))"),
                     sketch("line a (1, 2);", "!" * 20 + "left a"),
                     'cut half (1, 0, 0) at "plane 1.a" plus ("0", "0", "0");',
                     'cut half (1, 0, 0) at "face 1.2.3.a by 0.xl 3/4 down" plus ("0", "w", "0");'):
            feature = read_feature(NAMES, text)
            written = feature_text(NAMES, feature)
            self.assertEqual(read_feature(NAMES, written), feature)
            self.assertEqual(again(written), written)

    def test_features_that_were_never_texts(self):
        feature = {"op": "keep", "direction": (0, 0, 2), "spot": (None, (W, ZERO, ONE))}
        self.assertEqual(feature_text(NAMES, feature), 'keep half (0, 0, 2) at ("w", "0", "1");\n')
        feature = {"op": "cut", "spot": (read_name("corner 1.a 1.b 1.c"), (ZERO, ZERO, ZERO)), "u": (1, 0, 0),
                   "v": (0, 1, 0), "w": (0, 0, 1), "lines": [("a", (1, 0), None), ("b", (0, 1), (W, ONE))],
                   "dimensions": [("at", 0, 1, "u", W)], "area": ("left", "b"),
                   "from": (read_name("plane 1.low"), None), "to": (None, ((-1, 2), (fraction(3, 2), (0, 1))))}
        self.assertEqual(feature_text(NAMES, feature), (
            'cut at "corner 1.a 1.b 1.c" u (1, 0, 0) v (0, 1, 0) w (0, 0, 1) {\n'
            '  line a (1, 0);\n'
            '  line b (0, 1) through "w" "1";\n'
            '  dim corner a b at u "w";\n'
            '} area left b; from on "plane 1.low" to "3/2*w - 1/2";\n'))

    def test_faults(self):
        self.assert_fault(1, 4, again, "add")
        self.assert_fault(2, 1, again, "cut\n?")
        self.assert_fault(1, 6, again, "copy 0;")
        self.assert_fault(1, 1, again, HALF + " " * 2000)

    def test_what_is_handed_in_does_not_change(self):
        names = list(NAMES)
        feature = read_feature(names, SKETCH)
        same = read_feature(names, SKETCH)
        feature_text(names, feature)
        spots(feature)
        side_names(feature).clear()
        spots(feature).clear()
        self.assertEqual((names, feature), (NAMES, same))


class Lengths(FaultCase):

    def text_of_length(self, many):
        """A feature whose text, written again, has so many characters, but which is shorter as it is told."""
        words = ["left a", "left a1", "left a12"]
        lines = "line a (1, 0);line a1 (1, 0);line a12 (1, 0);"
        front = len(again(sketch(lines)))
        parts = (many - front) // len(" & left a")
        rest = (many - front) % len(" & left a")
        row = [words[0]] * (parts + 1)
        for at in range(rest):
            row[at] = words[1]
        text = sketch(lines, "&".join(row))
        self.assertLess(len(text), 2000)
        return text

    def test_the_longest(self):
        for many in (1990, 1999, 2000):
            text = self.text_of_length(many)
            self.assertEqual(len(again(text)), many)
            self.assertEqual(read_feature(NAMES, again(text)), read_feature(NAMES, text))

    def test_too_long(self):
        for many in (2001, 2002, 2010):
            text = self.text_of_length(many)
            feature = read_feature(NAMES, text)
            self.assert_fault(1, 1, again, text)
            self.assert_fault(1, 1, feature_text, NAMES, feature)


class SpotsAndSides(unittest.TestCase):

    def test_spots(self):
        plane = read_name("plane 1.high")
        corner = read_name("corner 1.a 1.b 1.low")
        face = read_name("face 2.a up")
        self.assertEqual(spots(read_feature(NAMES, SKETCH)), [plane])
        text = SKETCH.replace('("0", "1/2", "w")', '"corner 1.a 1.b 1.low" plus ("0", "0", "0")')
        self.assertEqual(spots(read_feature(NAMES, text)), [corner, plane])
        text = text.replace('from "0"', 'from on "face 2.a up"')
        self.assertEqual(spots(read_feature(NAMES, text)), [corner, face, plane])
        self.assertEqual(spots(read_feature(NAMES, HALF)), [])
        self.assertEqual(spots(read_feature(NAMES, 'cut half (1, 0, 0) at "plane 1.high";')), [plane])
        self.assertEqual(spots(read_feature(NAMES, MIRROR)), [corner])
        self.assertEqual(spots(read_feature(NAMES, SHIFT)), [])
        self.assertEqual(spots(read_feature(NAMES, sketch("line a (1, 0);"))), [])

    def test_the_same_name_twice(self):
        text = SKETCH.replace('from "0"', 'from on "plane 1.high"')
        self.assertEqual(spots(read_feature(NAMES, text)), [read_name("plane 1.high")] * 2)

    def test_side_names(self):
        self.assertEqual(side_names(read_feature(NAMES, SKETCH)), ["a", "b", "c", "d", "low", "high"])
        self.assertEqual(side_names(read_feature(NAMES, sketch("line z (1, 0); line b (1, 0);", "left b"))),
                         ["z", "b", "low", "high"])
        self.assertEqual(side_names(read_feature(NAMES, HALF)), ["half"])
        self.assertEqual(side_names(read_feature(NAMES, SHIFT)), [])
        self.assertEqual(side_names(read_feature(NAMES, MIRROR)), [])


if __name__ == "__main__":
    unittest.main()
