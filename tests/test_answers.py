"""Points 46 to 49, 67 and 74 at inputs that were too slow: the same answers, for less work.

What is compared with was told by the program as it was before making was made quicker.
"""

import sys
import unittest

from answers import KEPT, digest, flat_planes, padded, set_all, slotted, whole

# For each w and h where 1.high, 1.b, 2.high and 3.1.low, b, d, high are, and the digest of all that is told of the body.
PADDED = [
    ("3", "2", "z=3 x=4 z=6 z=3 x=6 x=13/2 z=6", "ef72065d486904e0"),
    ("2", "1", "z=2 x=3 z=4 z=2 x=4 x=9/2 z=4", "a1d0bfb3f420cf32"),
    ("6", "5", "z=6 x=7 z=12 z=6 x=12 x=25/2 z=12", "ab98a7bad8ff6a92"),
    ("7/2", "5/2", "z=7/2 x=9/2 z=7 z=7/2 x=7 x=15/2 z=7", "445b09c46992be32"),
    ("9/2", "1", "z=2 x=11/2 z=13/2 z=2 x=9 x=19/2 z=13/2", "cd6191651006f075"),
    ("5/2", "9/2", "z=11/2 x=7/2 z=8 z=11/2 x=5 x=11/2 z=8", "036609157fcbb4f8"),
    ("11/2", "4", "z=5 x=13/2 z=21/2 z=5 x=11 x=23/2 z=21/2", "a4f7819a3f7ea3aa"),
]

# For each w and s where the kept names go, and the digest of the things to which they go.
SLOTTED = [
    ("8", "4", "split found found found found found", "f316ffc56ec0a7c7"),
    ("7", "3", "split found found found found found", "4c0abea506612d6b"),
    ("15/2", "5/2", "split found found found found found", "88e246fd872dd1b1"),
    ("4", "4", "found split split lost found lost", "143b907659a02463"),
    ("5", "4", "found split found lost found found", "165200daa83236df"),
    ("9", "1", "found found split found found lost", "abebb6775811009e"),
    ("6", "0", "found split split lost found lost", "9a29a6045fe8f228"),
    ("3", "9", "found split split lost found lost", "25ef1b80a222eef7"),
    ("17/2", "15/2", "found split found lost found found", "d4d38ba7b3d0c599"),
    ("2", "1/2", "found found split found found lost", "e503dc37291900d0"),
]


def padded_planes(places):
    """The planes and origins of the flat places, in order, by where the seven moving planes are."""
    top, wall, pad, low, inner, outer, high = places.split()
    return (["y=1 1.a+"] * 3 + ["x=1 1.d+"] * 3 + ["z=1 1.low+"] * 9 + [f"{top} 1.high-"] * 8
            + ["y=3/2 2.a+", "x=3/2 2.d+", f"{pad} 2.high-", "y=2 2.c-", "x=2 2.b-"]
            + ["y=4 1.c-"] * 3 + [f"{wall} 1.b-"] * 3
            + [f"{low} 3.1.low+", "y=3/2 3.1.a+", f"{inner} 3.1.b+", f"{outer} 3.1.d-", f"{high} 3.1.high-", "y=2 3.1.c-"])


def calls_of(deed):
    """How many functions are called, Python's own ones too, as a deed is done; the same on every machine."""
    many = 0

    def count(frame, event, told):
        nonlocal many
        many += event in ("call", "c_call")

    sys.setprofile(count)
    try:
        deed()
    finally:
        sys.setprofile(None)
    return many


class Padded(unittest.TestCase):

    def test_each_setting(self):
        for w, h, places, wanted in PADDED:
            made = padded()
            set_all(made, w=w, h=h)
            self.assertEqual([row[2:] for row in made.features()], [("made", "")] * 3)
            self.assertEqual(flat_planes(made.body()), padded_planes(places), (w, h))
            self.assertEqual(whole(made), wanted, (w, h))

    def test_one_setting_behind_the_other_and_back(self):
        made = padded()
        for w, h, _, wanted in PADDED[1:]:
            self.assertEqual(whole(made), PADDED[0][3])
            set_all(made, w=w, h=h)
            self.assertEqual(whole(made), wanted, (w, h))
            set_all(made, w="3", h="2")
        made.undo(1)
        made.undo(1)
        self.assertEqual(whole(made), PADDED[-1][3])

    def test_it_takes_little(self):
        # Before, a making with its flat places took more than 140000 calls.
        made = padded()
        self.assertLess(calls_of(lambda: made.body().flats()), 15000)


class Slotted(unittest.TestCase):

    def test_each_setting(self):
        for w, s, states, wanted in SLOTTED:
            made = slotted()
            set_all(made, w=w, s=s)
            found = [made.look_up(number) for number in range(1, len(KEPT) + 1)]
            self.assertEqual(" ".join(state for state, _ in found), states, (w, s))
            self.assertEqual(digest(*found), wanted, (w, s))
            self.assertEqual([made.look_up(text) for text in KEPT], found)

    def test_it_takes_little(self):
        # Before, a making and looking four names up took more than 70000 calls.
        made = slotted()
        self.assertLess(calls_of(lambda: [made.look_up(number) for number in range(1, 5)]), 15000)


if __name__ == "__main__":
    unittest.main()
