"""Point 64: origins."""

import unittest

from helpers import FaultCase
from truepart.origins import is_side_name, origin_text, read_origin


class SideNames(unittest.TestCase):

    def test_good(self):
        for text in ("a", "xl", "low", "half", "a1", "aB9", "z" * 16, "a234567890123456"):
            self.assertIs(is_side_name(text), True, text)

    def test_bad(self):
        for text in ("", "A", "1", "Ab", "1a", "a_b", "a b", "a.", " a", "a ", "a\n", "z" * 17, "_a", "a-"):
            self.assertIs(is_side_name(text), False, text)


class Origins(FaultCase):

    def test_there_and_back(self):
        for text, origin in [
                ("3.a", (3, (), "a")), ("5.2.a", (5, (2,), "a")), ("0.xl", (0, (), "xl")), ("999999.low", (999999, (), "low")),
                ("1.999999.half", (1, (999999,), "half")), ("10.1.20.300.aB9", (10, (1, 20, 300), "aB9")),
                ("7." + "1." * 12 + "z" * 16, (7, (1,) * 12, "z" * 16)), ("0.1.a", (0, (1,), "a"))]:
            self.assertEqual(read_origin(text), origin)
            self.assertEqual(origin_text(origin), text)

    def test_texts_that_are_none(self):
        for text in (
                "", ".", "a", "3", "3.", ".a", "3..a", "3.a.", ".3.a", "3.a.b", "3.2", "3.2.", "03.a", "00.a", "1000000.a",
                "0000001.a", "-1.a", "3.0.a", "3.00.a", "3.01.a", "3.1000000.a", "3.-1.a", "3.1.0.1.a", "3.A", "3.a_b",
                "3.1a", "3. a", " 3.a", "3.a ", "3 .a", "3.a\n", "\n3.a", "x.a", "3.x.1.a", "+3.a", "3." + "z" * 17,
                "7." + "1." * 13 + "a", "3a", "3/a", "1.2.3", "9" * 5000 + ".a", "3." + "9" * 5000 + ".a"):
            self.assert_fault(1, 1, read_origin, text)

    def test_order(self):
        texts = ["0.xl", "1.a", "1.b", "1.1.a", "1.1.z", "1.1.1.a", "1.2.a", "1.10.a", "2.a", "10.a"]
        self.assertEqual(sorted(map(read_origin, reversed(texts))), list(map(read_origin, texts)))


if __name__ == "__main__":
    unittest.main()
