"""Point 65: names."""

import unittest

from helpers import FaultCase
from truepart.nametexts import name_text, read_name

A, B, C = (3, (), "a"), (3, (), "b"), (5, (2,), "a")


class Names(FaultCase):

    def test_there_and_back(self):
        for text, name in [
                ("plane 3.a", ("plane", (A,), "", None)),
                ("face 3.a", ("face", (A,), "", None)),
                ("face 5.2.a up", ("face", (C,), "up", None)),
                ("face 3.a down", ("face", (A,), "down", None)),
                ("face 3.a by 3.b 1/1", ("piece", (A, B), "", (1, 1))),
                ("face 5.2.a by 3.b 2/10 up", ("piece", (C, B), "up", (2, 10))),
                ("face 3.a by 5.2.a 99/99 down", ("piece", (A, C), "down", (99, 99))),
                ("edge 3.a 3.b 1/2", ("edge", (A, B), "", (1, 2))),
                ("edge 3.b 5.2.a 9/99", ("edge", (B, C), "", (9, 99))),
                ("corner 3.a 3.b 5.2.a", ("corner", (A, B, C), "", None))]:
            self.assertEqual(read_name(text), name)
            self.assertEqual(name_text(name), text)

    def test_edges_and_corners_have_their_origins_in_order(self):
        self.assertEqual(read_name("edge 5.2.a 3.b 1/2"), ("edge", (B, C), "", (1, 2)))
        self.assertEqual(read_name("edge 10.a 9.a 1/1")[1], ((9, (), "a"), (10, (), "a")))
        self.assertEqual(read_name("edge 1.1.a 1.z 1/1")[1], ((1, (), "z"), (1, (1,), "a")))
        for text in ("corner 3.b 5.2.a 3.a", "corner 5.2.a 3.b 3.a", "corner 3.a 5.2.a 3.b"):
            self.assertEqual(read_name(text), ("corner", (A, B, C), "", None))
            self.assertEqual(name_text(read_name(text)), "corner 3.a 3.b 5.2.a")

    def test_pieces_keep_their_origins(self):
        self.assertEqual(read_name("face 5.2.a by 3.a 1/1")[1], (C, A))
        self.assertEqual(read_name("face 3.a by 5.2.a 1/1")[1], (A, C))

    def test_texts_that_are_none(self):
        for text in (
                "", " ", "plane", "plane ", "plane 3", "plane 3.a up", "plane 3.a 3.b", " plane 3.a", "plane 3.a ",
                "plane  3.a", "plane\n3.a", "plane 3.a\n", "Plane 3.a", "side 3.a", "3.a", "plane 03.a", "plane 3.A",
                "face", "face 3.a left", "face 3.a Up", "face 3.a up up", "face 3.a up down", "face 3.a 3.b", "face up",
                "face 3.a by", "face 3.a by 3.b", "face 3.a by 3.b up", "face 3.a by 3.b 1/1 left", "face 3.a by 3.b 1/1 ",
                "face 3.a by 3.b 1/1 up up", "face 3.a at 3.b 1/1", "face 3.a 3.b by 1/1", "face by 3.b 1/1",
                "face 3.a by 3.x.b 1/1", "face 3.a up by 3.b 1/1", "piece 3.a 3.b 1/1", "face 3.a by 3.b 1/1 3.c",
                "edge 3.a 3.b", "edge 3.a 1/1", "edge 3.a 3.b 3.c", "edge 3.a 3.b 1/1 up", "edge 3.a by 3.b 1/1",
                "edge 3.a  3.b 1/1", "edge 1/1 3.a 3.b",
                "corner 3.a 3.b", "corner 3.a 3.b 3.c 1/1", "corner 3.a 3.b 3.c 3.d", "corner 3.a 3.b 1/1",
                "corner 3.a,3.b,3.c", "corner 3.a 3.b 3.c up"):
            self.assert_fault(1, 1, read_name, text)

    def test_places_at_their_bounds(self):
        for place in ("0/1", "0/0", "2/1", "1/0", "100/100", "1/100", "01/2", "1/02", "1/", "/1", "1", "1/2/3", "-1/2", "1/-2",
                      "1 /2", "a/b", "1//2", "/", "", "99/98", "1.2", "9" * 5000 + "/1"):
            self.assert_fault(1, 1, read_name, "edge 3.a 3.b " + place)
            self.assert_fault(1, 1, read_name, "face 3.a by 3.b " + place)
        for at, many in ((1, 1), (1, 99), (99, 99), (9, 10), (10, 10)):
            self.assertEqual(read_name(f"edge 3.a 3.b {at}/{many}")[3], (at, many))
            self.assertEqual(read_name(f"face 3.a by 3.b {at}/{many}")[3], (at, many))

    def test_the_same_origin_twice(self):
        for text in ("edge 3.a 3.a 1/1", "face 3.a by 3.a 1/1", "corner 3.a 3.b 3.a", "corner 3.a 3.a 3.b",
                     "corner 3.b 3.a 3.a", "corner 5.2.a 5.2.a 5.2.a"):
            self.assert_fault(1, 1, read_name, text)
        self.assertEqual(read_name("edge 3.a 3.1.a 1/1")[1], (A, (3, (1,), "a")))


if __name__ == "__main__":
    unittest.main()
