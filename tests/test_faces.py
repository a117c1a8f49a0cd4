"""Points 50 to 54, and the order of lists of points of 63: faces."""

import random
import unittest

import reference
from solids import at, block, body_of, half, origins, plain_block, points, slotted_block, worth
from test_bodies import bodies, random_body
from truepart.faces import face_pieces, faces, facet
from truepart.measures import area_of

X, Y, Z = (1, 0, 0), (0, 1, 0), (0, 0, 1)


def pieces(body, names):
    return face_pieces(body, origins(names))


def told(body, names):
    """Of each face piece its plane, whether the body is below, its area and its corners."""
    return [(body.planes[piece[0]], piece[1], *facet(body, piece)) for piece in pieces(body, names)]


class Pieces(unittest.TestCase):

    def test_of_one_piece(self):
        body = plain_block()
        found = pieces(body, "1.high")
        self.assertEqual(found, [(body.planes.index((Z, (4, 1))), True, [flat for flat in body.flats() if flat[3] == (1, (), "high")])])
        self.assertIsInstance(found[0], tuple)
        self.assertIs(pieces(body, "1.low")[0][1], False)

    def test_of_two_pieces(self):
        body = slotted_block()
        found = pieces(body, "1.high")
        self.assertEqual([len(piece[2]) for piece in found], [1, 1])
        self.assertEqual([piece[:2] for piece in found], [(body.planes.index((Z, (4, 1))), True)] * 2)
        self.assertLess(found[0][2][0][0], found[1][2][0][0])

    def test_several_flat_places_hang_together(self):
        body = slotted_block()
        (plane, is_below, flats), = pieces(body, "1.b")
        self.assertEqual((body.planes[plane], is_below), ((X, (8, 1)), True))
        self.assertEqual(flats, [flat for flat in body.flats() if flat[3] == (1, (), "b")])
        self.assertGreater(len(flats), 3)
        self.assertEqual([flat[0] for flat in flats], sorted(flat[0] for flat in flats))

    def test_pieces_that_meet_at_a_point_alone(self):
        body = body_of(block(1, "add", (2, 8), (2, 8), (1, 4)), block(2, "cut", (2, 5), (2, 5), (3, 5)),
                       block(3, "cut", (5, 8), (5, 8), (3, 5)))
        self.assertEqual(len(pieces(body, "1.high")), 2)

    def test_both_sides_of_one_plane(self):
        body = body_of(block(1, "add", (2, 4), (2, 4), (1, 3)), block(2, "add", (4, 6), (2, 4), (3, 5)))
        self.assertEqual(told(body, "1.high"), [((Z, (3, 1)), True, (4, 1), points((2, 2, 3), (2, 4, 3), (4, 2, 3), (4, 4, 3)))])
        self.assertEqual(told(body, "2.low"), [((Z, (3, 1)), False, (4, 1), points((4, 2, 3), (4, 4, 3), (6, 2, 3), (6, 4, 3)))])
        # They lie beside one another on one plane, but the body is on different sides.
        self.assertEqual(sorted(told(body, "1.high 2.low")), sorted(told(body, "1.high") + told(body, "2.low")))

    def test_several_origins(self):
        body = body_of(block(1, "add", (2, 4), (2, 4), (1, 3)), block(2, "add", (4, 6), (2, 4), (1, 3)))
        self.assertEqual(len(pieces(body, "1.high")), 1)
        self.assertEqual(told(body, "1.high 2.high"), [
            ((Z, (3, 1)), True, (8, 1), points((2, 2, 3), (2, 4, 3), (6, 2, 3), (6, 4, 3)))])
        self.assertEqual(pieces(body, "2.high 1.high 2.high"), pieces(body, "1.high 2.high"))
        self.assertEqual(len(pieces(body, "1.high 2.low 1.a 2.a 2.b")), 4)

    def test_without_flat_places(self):
        body = slotted_block()
        self.assertEqual(face_pieces(body, []), [])
        self.assertEqual(pieces(body, "2.high 7.a 0.xl"), [])
        self.assertEqual(pieces(body, "2.high 1.low"), pieces(body, "1.low"))

    def test_what_is_returned_is_new(self):
        body, wanted = slotted_block(), origins("1.high")
        before = face_pieces(body, wanted)
        found = face_pieces(body, wanted)
        found[0][2][0][1].clear()
        found[0][2].clear()
        self.assertEqual(face_pieces(body, wanted), before)
        self.assertEqual(wanted, origins("1.high"))

    def test_against_the_words_of_the_document(self):
        chance = random.Random(31)
        for body in bodies():
            known = sorted({flat[3] for flat in body.flats()})
            rows = [[origin] for origin in known] + [chance.sample(known, min(len(known), k)) for k in (2, 3, 5)]
            for wanted in rows:
                found = face_pieces(body, wanted)
                self.assertEqual(found, reference.face_pieces(body, wanted))
                for piece in found:
                    area, corners = facet(body, piece)
                    self.assertEqual(corners, reference.corners_of_part(body, piece[2]))
                    self.assertEqual(area, area_of([flat[1] for flat in piece[2]], body.planes[piece[0]][0]))


class Facets(unittest.TestCase):

    def test_of_a_block(self):
        self.assertEqual(told(plain_block(), "1.high"), [
            ((Z, (4, 1)), True, (24, 1), points((2, 3, 4), (2, 7, 4), (8, 3, 4), (8, 7, 4)))])

    def test_of_a_slot(self):
        body = slotted_block()
        self.assertEqual(told(body, "1.high"), [
            ((Z, (4, 1)), True, (6, 1), points((2, 3, 4), (2, 4, 4), (8, 3, 4), (8, 4, 4))),
            ((Z, (4, 1)), True, (12, 1), points((2, 5, 4), (2, 7, 4), (8, 5, 4), (8, 7, 4)))])
        # The points in the middle of a straight end, at z = 2 for one, are no corners.
        self.assertEqual(told(body, "1.b"), [((X, (8, 1)), True, (10, 1), points(
            (8, 3, 1), (8, 3, 4), (8, 4, 2), (8, 4, 4), (8, 5, 2), (8, 5, 4), (8, 7, 1), (8, 7, 4)))])

    def test_with_a_hole(self):
        body = body_of(block(1, "add", (1, 9), (1, 9), (1, 4)), block(2, "cut", (3, 5), (4, 6), (0, 5)))
        outer, inner = [(1, 1), (1, 9), (9, 1), (9, 9)], [(3, 4), (3, 6), (5, 4), (5, 6)]
        for name, z, is_below in (("1.high", 4, True), ("1.low", 1, False)):
            corners = sorted([at(x, y, z) for x, y in outer + inner])
            self.assertEqual(told(body, name), [((Z, (z, 1)), is_below, (60, 1), corners)])

    def test_where_ends_meet_at_a_point(self):
        # Two holes have a corner in common: four segments of the end meet there.
        body = body_of(block(1, "add", (1, 9), (1, 9), (1, 4)), block(2, "cut", (3, 5), (3, 5), (0, 5)),
                       block(3, "cut", (5, 7), (5, 7), (0, 5)))
        (_, _, area, corners), = told(body, "1.high")
        self.assertEqual(area, (56, 1))
        self.assertEqual(corners, points((1, 1, 4), (1, 9, 4), (3, 3, 4), (3, 5, 4), (5, 3, 4), (5, 5, 4), (5, 7, 4), (7, 5, 4),
                                         (7, 7, 4), (9, 1, 4), (9, 9, 4)))

    def test_slanting(self):
        body = body_of(half(1, "add", (1, 1, 1), worth(0)), half(2, "cut", (1, 2, 3), worth(6)))
        # The triangle has the area of half of (0, 3, 0) - (6, 0, 0) times (0, 0, 2) - (6, 0, 0), which is (6, 12, 18).
        self.assertEqual(told(body, "2.half"), [(((1, 2, 3), (6, 1)), True, (3, 1), points((0, 0, 2), (0, 3, 0), (6, 0, 0)))])

    def test_what_is_handed_in_does_not_change(self):
        body = slotted_block()
        piece = pieces(body, "1.b")[0]
        facet(body, piece)[1].clear()
        self.assertEqual(piece, pieces(body, "1.b")[0])


class Faces(unittest.TestCase):

    def test_of_a_block(self):
        self.assertEqual(faces(plain_block()), [
            ((1, (), "a"), False, (Y, (3, 1)), (18, 1), points((2, 3, 1), (2, 3, 4), (8, 3, 1), (8, 3, 4))),
            ((1, (), "b"), True, (X, (8, 1)), (12, 1), points((8, 3, 1), (8, 3, 4), (8, 7, 1), (8, 7, 4))),
            ((1, (), "c"), True, (Y, (7, 1)), (18, 1), points((2, 7, 1), (2, 7, 4), (8, 7, 1), (8, 7, 4))),
            ((1, (), "d"), False, (X, (2, 1)), (12, 1), points((2, 3, 1), (2, 3, 4), (2, 7, 1), (2, 7, 4))),
            ((1, (), "high"), True, (Z, (4, 1)), (24, 1), points((2, 3, 4), (2, 7, 4), (8, 3, 4), (8, 7, 4))),
            ((1, (), "low"), False, (Z, (1, 1)), (24, 1), points((2, 3, 1), (2, 7, 1), (8, 3, 1), (8, 7, 1)))])

    def test_of_nothing(self):
        self.assertEqual(faces(body_of()), [])

    def test_in_the_order_of_the_origins(self):
        body = body_of(block(2, "add", (2, 8), (3, 7), (1, 4)), block(1, "cut", (4, 5), (0, 9), (2, 9)),
                       half(10, "cut", (0, 0, 1), worth((7, 2))))
        names = [face[0] for face in faces(body)]
        self.assertEqual(names, sorted(names))
        self.assertEqual(sorted(set(names)), origins("1.b 1.d 1.low 2.a 2.b 2.c 2.d 2.low 10.half"))
        self.assertEqual(names.count((10, (), "half")), 2)

    def test_those_of_one_origin_in_the_order_of_their_corners(self):
        # A cross has four pieces on its top; which of their flat places come first goes by the planes.
        body = body_of(block(1, "add", (1, 9), (1, 9), (1, 4)), block(2, "cut", (0, 10), ("7/2", 5), (2, 9)),
                       block(3, "cut", ("10/3", 6), (0, 10), (2, 9)))
        found = [face[4] for face in faces(body) if face[0] == (1, (), "high")]
        self.assertEqual([corners[0] for corners in found], points((1, 1, 4), (1, 5, 4), (6, 1, 4), (6, 5, 4)))

    def test_lists_of_points_are_in_order_as_texts_are(self):
        for body in bodies():
            keys = [(face[0], [reference.order(point) for point in face[4]]) for face in faces(body)]
            self.assertEqual(keys, sorted(keys))

    def test_all_are_told(self):
        chance = random.Random(40)
        for body in bodies() + [random_body(chance) for _ in range(4)]:
            expected = []
            for origin in sorted({flat[3] for flat in body.flats()}):
                for piece in face_pieces(body, [origin]):
                    expected.append((origin, piece[1], body.planes[piece[0]], *facet(body, piece)))
            expected = sorted(expected, key=lambda face: (face[0], [reference.order(point) for point in face[4]]))
            self.assertEqual(faces(body), expected)


if __name__ == "__main__":
    unittest.main()
