"""Points 15 and 16: tokens and where they are at fault."""

import unittest

from helpers import FaultCase
from truepart.tokens import position, tokens


def short(text):
    return [(kind, content) for kind, content, _ in tokens(text)]


class Kinds(unittest.TestCase):

    def test_words(self):
        self.assertEqual(tokens("left a1 B x"), [
            ("word", "left", 0), ("word", "a1", 5), ("word", "B", 8), ("word", "x", 10)])
        self.assertEqual(tokens("z" * 40), [("word", "z" * 40, 0)])

    def test_integers(self):
        self.assertEqual(tokens("0 7 -7 1000000 -1000000 10"), [
            ("integer", 0, 0), ("integer", 7, 2), ("integer", -7, 4), ("integer", 1000000, 7),
            ("integer", -1000000, 15), ("integer", 10, 24)])

    def test_quotes(self):
        self.assertEqual(tokens('"a + 1" ""'), [("quote", "a + 1", 0), ("quote", "", 8)])
        self.assertEqual(tokens('"# ( 007 _ ?" x'), [("quote", "# ( 007 _ ?", 0), ("word", "x", 14)])
        self.assertEqual(tokens('"a""b"'), [("quote", "a", 0), ("quote", "b", 3)])

    def test_signs(self):
        signs = "{}(),;/&|!"
        self.assertEqual(tokens(signs), [("sign", sign, at) for at, sign in enumerate(signs)])
        self.assertEqual(tokens(" ".join(signs)), [("sign", sign, 2 * at) for at, sign in enumerate(signs)])

    def test_tokens_directly_behind_one_another(self):
        self.assertEqual(short('(1,-2)left!a&7b"q"c'), [
            ("sign", "("), ("integer", 1), ("sign", ","), ("integer", -2), ("sign", ")"), ("word", "left"),
            ("sign", "!"), ("word", "a"), ("sign", "&"), ("integer", 7), ("word", "b"), ("quote", "q"), ("word", "c")])
        self.assertEqual(short("1-2 3/4"), [
            ("integer", 1), ("integer", -2), ("integer", 3), ("sign", "/"), ("integer", 4)])

    def test_gaps(self):
        self.assertEqual(tokens(""), [])
        self.assertEqual(tokens(" \n \n"), [])
        self.assertEqual(tokens("# nothing"), [])
        self.assertEqual(tokens("a# b ( \" 007\n# c\n\n  d #"), [("word", "a", 0), ("word", "d", 20)])
        self.assertEqual(tokens("a#b#c\n!"), [("word", "a", 0), ("sign", "!", 6)])

    def test_the_list_is_new(self):
        tokens("a b").clear()
        self.assertEqual(short("a b"), [("word", "a"), ("word", "b")])


class Positions(unittest.TestCase):

    def test_first_line(self):
        self.assertEqual(position("abc", 0), (1, 1))
        self.assertEqual(position("abc", 2), (1, 3))
        self.assertEqual(position("abc", 3), (1, 4))
        self.assertEqual(position("", 0), (1, 1))

    def test_later_lines(self):
        text = "ab\n\ncd\n"
        self.assertEqual([position(text, at) for at in range(8)], [
            (1, 1), (1, 2), (1, 3), (2, 1), (3, 1), (3, 2), (3, 3), (4, 1)])


class Faults(FaultCase):

    def test_integers(self):
        for text, column in [
                ("007", 1), ("00", 1), ("-0", 1), ("-01", 1), ("-00", 1), ("-", 1), ("- 1", 1), ("--1", 1),
                ("1000001", 1), ("-1000001", 1), ("0000001", 1), ("10000000", 1), ("a -x", 3), ("1 01", 3), ("1-", 2),
                ("9" * 1990, 1), ("0x -0", 4)]:
            self.assert_fault(1, column, tokens, text)

    def test_quotes_without_an_end_in_their_line(self):
        for line, column, text in [
                (1, 1, '"'), (1, 1, '"abc'), (1, 1, '"abc\n"'), (1, 5, '"a" "'), (2, 3, 'a\n ("b\nc"'), (1, 3, 'a "b # c')]:
            self.assert_fault(line, column, tokens, text)

    def test_strange_characters(self):
        for text, column in [
                ("?", 1), ("a_b", 2), ("_", 1), ("a.b", 2), ("+1", 1), ("a * b", 3), ("[", 1), ("a = b", 3), ("a'b", 2),
                ("1.5", 2), ("<", 1), ("~", 1), ("3:4", 2)]:
            self.assert_fault(1, column, tokens, text)

    def test_lines(self):
        self.assert_fault(3, 2, tokens, "a # ?\n\n ?")
        self.assert_fault(2, 4, tokens, "a\nb (007)")
        self.assert_fault(4, 1, tokens, "\n\n\n-")

    def test_the_first_from_the_left_counts(self):
        self.assert_fault(1, 1, tokens, "007 ? \"")
        self.assert_fault(1, 1, tokens, "? 007 \"")
        self.assert_fault(1, 1, tokens, "\" 007 ?")
        self.assert_fault(2, 1, tokens, "a 1\n-0 ?")

    def test_lengths(self):
        self.assertEqual(len(tokens("(" * 2000)), 2000)
        self.assertEqual(tokens("z" * 2000), [("word", "z" * 2000, 0)])
        self.assertEqual(tokens(" " * 2000), [])
        for text in ("(" * 2001, " " * 2001, "z" * 2001, " " * 2000 + "?", "?" + " " * 2000, "\n" * 2001, "9" * 5000):
            self.assert_fault(1, 1, tokens, text)
        self.assert_fault(1, 2000, tokens, " " * 1999 + "?")


if __name__ == "__main__":
    unittest.main()
