"""Points 55 to 58: edges."""

import random
import unittest

import reference
from solids import block, body_of, half, origins, plain_block, points, slotted_block, worth
from test_bodies import bodies
from truepart.cells import in_closure
from truepart.edges import edge_pieces, edges
from truepart.measures import length_of

X, Y, Z = (1, 0, 0), (0, 1, 0), (0, 0, 1)


def pieces(body, first, second):
    return edge_pieces(body, origins(first), origins(second))


def told(body, first, second):
    return [piece[:3] for piece in pieces(body, first, second)]


def edge(direction, *ends):
    return (direction, *points(*ends))


class Pieces(unittest.TestCase):

    def test_of_a_block(self):
        body = plain_block()
        self.assertEqual(told(body, "1.a", "1.b"), [edge(Z, (8, 3, 1), (8, 3, 4))])
        self.assertEqual(told(body, "1.a", "1.high"), [edge(X, (2, 3, 4), (8, 3, 4))])
        self.assertEqual(told(body, "1.high", "1.a"), [edge(X, (2, 3, 4), (8, 3, 4))])
        self.assertEqual(told(body, "1.d", "1.low"), [edge(Y, (2, 3, 1), (2, 7, 1))])
        self.assertEqual(told(body, "1.a", "1.c"), [])
        self.assertEqual(told(body, "1.a", "1.a"), [])

    def test_the_segments(self):
        body = plain_block()
        (_, _, _, cells), = pieces(body, "1.a", "1.b")
        self.assertEqual([there for _, there in cells], [points((8, 3, 1), (8, 3, 4))])
        self.assertIn(cells[0], body.cells)
        (_, _, _, cells), = pieces(slotted_block(), "1.b", "1.low")
        self.assertEqual([there for _, there in cells], [
            points((8, 3, 1), (8, 4, 1)), points((8, 4, 1), (8, 5, 1)), points((8, 5, 1), (8, 7, 1))])

    def test_an_edge_that_a_slot_parts(self):
        self.assertEqual(told(slotted_block(), "1.b", "1.high"), [
            edge(Y, (8, 3, 4), (8, 4, 4)), edge(Y, (8, 5, 4), (8, 7, 4))])

    def test_where_the_picture_changes(self):
        # The second block's top goes on behind the edge of the first one's, so that the first one's ends earlier.
        body = body_of(block(1, "add", (2, 8), (2, 4), (1, 3)), block(2, "add", (5, 8), (4, 6), (1, 5)))
        self.assertEqual(told(body, "1.high", "1.c 2.a"), [edge(X, (2, 4, 3), (5, 4, 3)), edge(X, (5, 4, 3), (8, 4, 3))])
        self.assertEqual(told(body, "1.high", "1.c"), [edge(X, (2, 4, 3), (5, 4, 3))])
        self.assertEqual(told(body, "1.high", "2.a"), [edge(X, (5, 4, 3), (8, 4, 3))])

    def test_where_the_picture_stays(self):
        body = body_of(block(1, "add", (2, 5), (2, 4), (1, 3)), block(2, "add", (5, 8), (2, 4), (1, 3)))
        self.assertEqual(told(body, "1.high", "1.a"), [edge(X, (2, 2, 3), (5, 2, 3))])
        self.assertEqual(told(body, "1.high 2.high", "1.a 2.a"), [edge(X, (2, 2, 3), (8, 2, 3))])
        self.assertEqual(told(body, "1.high", "1.a 2.a"), [edge(X, (2, 2, 3), (5, 2, 3))])

    def test_a_part_of_the_picture_that_goes(self):
        # The wall of 2.c goes on up as 3.a where the top of the first block ends.
        body = body_of(block(1, "add", (2, 8), (2, 6), (1, 3)), block(2, "cut", (4, 7), (2, 4), (1, 3)),
                       block(3, "add", (4, 6), (4, 5), (3, 4)))
        self.assertEqual(told(body, "1.high", "2.c"), [edge(X, (6, 4, 3), (7, 4, 3))])
        self.assertEqual(told(body, "1.high", "3.a"), [])
        self.assertEqual(told(body, "1.high 2.c", "3.a"), [])
        for first, second in (("1.high", "2.c 3.a"), ("1.high 2.c", "3.a"), ("1.high 2.c", "2.c 3.a")):
            self.assertEqual(pieces(body, first, second), reference.edge_pieces(body, origins(first), origins(second)))

    def test_the_side_of_the_line_belongs_to_the_picture(self):
        # All planes but x = 5 meet in the line y = 4, z = 3. In front of x = 5 the top lies on one side of it, behind on
        # the other; the slanting wall goes on.
        def side(number, name, normal, offset, above):
            return ((number, (), name), normal, worth(offset), above)

        three = ("both", ("both", ("side", 0), ("side", 1)), ("side", 2))
        body = body_of(
            (1, ("add", [side(1, "t", Z, 3, False), side(1, "a", Y, 4, False), side(1, "b", X, 5, False)], three)),
            (2, ("add", [side(2, "t", Z, 3, False), side(2, "s", (0, 1, 1), 7, True)], ("both", ("side", 0), ("side", 1)))),
            (3, ("add", [side(3, "t", Z, 3, True), side(3, "a", Y, 4, True), side(3, "b", X, 5, False)], three)))
        self.assertEqual(told(body, "1.t 2.t", "2.s"), [edge(X, (0, 4, 3), (5, 4, 3)), edge(X, (5, 4, 3), (10, 4, 3))])
        self.assertEqual(pieces(body, "1.t 2.t", "2.s"), reference.edge_pieces(body, origins("1.t 2.t"), origins("2.s")))

    def test_on_one_line(self):
        body = body_of(block(1, "add", (0, 10), (2, 6), (1, 3)), block(2, "cut", (2, 3), (0, 10), (2, 9)),
                       block(3, "cut", (7, 8), (0, 10), (2, 9)))
        self.assertEqual(told(body, "1.a", "1.high"), [
            edge(X, (0, 2, 3), (2, 2, 3)), edge(X, (3, 2, 3), (7, 2, 3)), edge(X, (8, 2, 3), (10, 2, 3))])

    def test_the_order_of_directions(self):
        body = plain_block()
        self.assertEqual(told(body, "1.high", "1.a 1.b 1.c 1.d"), [
            edge(Y, (2, 3, 4), (2, 7, 4)), edge(Y, (8, 3, 4), (8, 7, 4)), edge(X, (2, 3, 4), (8, 3, 4)),
            edge(X, (2, 7, 4), (8, 7, 4))])
        self.assertEqual(told(body, "1.a 1.c", "1.b 1.d")[0], edge(Z, (2, 3, 1), (2, 3, 4)))

    def test_the_order_of_the_starts(self):
        # Along (0, 1, 0) the products go first: the edge at y = 2 stands before those at y = 3.
        body = body_of(block(1, "add", (2, 8), (3, 7), (1, 4)), block(2, "add", (4, 5), (2, 3), (1, 4)))
        found = told(body, "1.high 2.high", "1.b 1.d 2.b 2.d")
        self.assertEqual(found, [edge(Y, (4, 2, 4), (4, 3, 4)), edge(Y, (5, 2, 4), (5, 3, 4)), edge(Y, (2, 3, 4), (2, 7, 4)),
                                 edge(Y, (8, 3, 4), (8, 7, 4))])

    def test_slanting(self):
        body = body_of(half(1, "add", (1, 1, 1), worth(0)), half(2, "cut", (1, 2, 3), worth(6)))
        self.assertEqual(told(body, "2.half", "0.zl"), [edge((2, -1, 0), (0, 3, 0), (6, 0, 0))])
        self.assertEqual(told(body, "2.half", "0.xl"), [edge((0, 3, -2), (0, 0, 2), (0, 3, 0))])

    def test_lists_without_flat_places(self):
        body = slotted_block()
        self.assertEqual(edge_pieces(body, [], origins("1.a")), [])
        self.assertEqual(edge_pieces(body, [], []), [])
        self.assertEqual(pieces(body, "7.a 2.high", "1.a"), [])
        self.assertEqual(pieces(body, "7.a 1.b", "2.high 1.a"), pieces(body, "1.b", "1.a"))

    def test_lists_that_have_an_origin_in_common(self):
        body = plain_block()
        self.assertEqual(told(body, "1.a 1.b", "1.a 1.b"), [edge(Z, (8, 3, 1), (8, 3, 4))])

    def test_two_flat_places_of_one_plane_do_not_meet(self):
        body = body_of(block(1, "add", (2, 5), (2, 4), (1, 3)), block(2, "add", (5, 8), (2, 4), (1, 3)))
        self.assertEqual(told(body, "1.high", "2.high"), [])

    def test_four_flat_places_at_a_segment(self):
        body = body_of(block(1, "add", (2, 5), (2, 5), (1, 3)), block(2, "add", (5, 8), (5, 8), (1, 3)))
        self.assertEqual(told(body, "1.b", "2.a"), [edge(Z, (5, 5, 1), (5, 5, 3))])
        self.assertEqual(told(body, "1.b", "2.d"), [])
        self.assertEqual(told(body, "1.b 2.d", "1.c 2.a"), [edge(Z, (5, 5, 1), (5, 5, 3))])

    def test_what_is_returned_is_new(self):
        body, first, second = slotted_block(), origins("1.b"), origins("1.low")
        before = edge_pieces(body, first, second)
        found = edge_pieces(body, first, second)
        found[0][3][0][1].clear()
        found[0][3].clear()
        self.assertEqual(edge_pieces(body, first, second), before)
        self.assertEqual((first, second), (origins("1.b"), origins("1.low")))

    def test_against_the_words_of_the_document(self):
        chance = random.Random(32)
        long = 0
        for body in bodies():
            known = sorted({flat[3] for flat in body.flats()})
            rows = [chance.sample(known, min(len(known), k)) for k in (1, 1, 2, 3, 5)] + [known]
            for first in rows:
                for second in rows[:3] + [known]:
                    found = edge_pieces(body, first, second)
                    self.assertEqual(found, reference.edge_pieces(body, first, second))
                    long += sum(len(piece[3]) > 1 for piece in found)
        self.assertGreater(long, 20)

    def test_each_segment_is_in_the_closure_of_both(self):
        body = slotted_block()
        for piece in pieces(body, "1.b", "1.low 2.a"):
            for signs, _ in piece[3]:
                for names in ("1.b", "1.low 2.a"):
                    self.assertTrue(any(in_closure(signs, flat[0]) for flat in body.flats() if flat[3] in origins(names)))


class Edges(unittest.TestCase):

    def test_of_a_block(self):
        found = edges(plain_block())
        self.assertEqual(len(found), 12)
        self.assertEqual(found[0], (((1, (), "a"), (1, (), "b")), *edge(Z, (8, 3, 1), (8, 3, 4)), (3, 1)))
        self.assertEqual(found[2], (((1, (), "a"), (1, (), "high")), *edge(X, (2, 3, 4), (8, 3, 4)), (6, 1)))

    def test_lengths(self):
        body = body_of(half(1, "add", (1, 1, 1), worth(0)), half(2, "cut", (1, 2, 3), worth(6)))
        found = {row[0]: row[1:] for row in edges(body)}
        self.assertEqual(found[tuple(origins("0.zl 2.half"))], (*edge((2, -1, 0), (0, 3, 0), (6, 0, 0)), (3, 1)))
        self.assertEqual(found[tuple(origins("0.xl 2.half"))], (*edge((0, 3, -2), (0, 0, 2), (0, 3, 0)), (1, 1)))
        self.assertEqual(found[tuple(origins("0.xl 0.yl"))], (*edge(Z, (0, 0, 0), (0, 0, 2)), (2, 1)))

    def test_of_nothing(self):
        self.assertEqual(edges(body_of()), [])

    def test_of_all_pairs_in_their_order(self):
        for body in bodies():
            known = sorted({flat[3] for flat in body.flats()})
            expected = []
            for k, one in enumerate(known):
                for other in known[k + 1:]:
                    for piece in edge_pieces(body, [one], [other]):
                        expected.append(((one, other), *piece[:3], length_of(*piece[:3])))
            self.assertEqual(edges(body), expected)


if __name__ == "__main__":
    unittest.main()
