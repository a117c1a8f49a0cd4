"""Points 66 and 67: where names go in a body."""

import unittest

import reference
from solids import block, body_of, origins, plain_block, points, sketch, slotted_block
from test_bodies import bodies
from truepart.corners import corner_points
from truepart.edges import edge_pieces
from truepart.faces import face_pieces, facet
from truepart.names import itself, look
from truepart.nametexts import read_name

X, Y, Z = (1, 0, 0), (0, 1, 0), (0, 0, 1)
LOST = ("lost", [])


def went(body, text, *meant):
    """Where a name goes; its places mean themselves unless it is told what they mean."""
    name = read_name(text)
    return look(body, name, [origins(words) for words in meant] if meant else itself(name))


def two_tops():
    """A body with two tops of one origin that lie on two planes."""
    return body_of(block(1, "add", (2, 4), (3, 7), (1, 4)), block(2, "add", (5, 8), (3, 7), (1, 6)))


class Itself(unittest.TestCase):

    def test_each_place_means_its_own_origin(self):
        self.assertEqual(itself(read_name("plane 1.a")), [origins("1.a")])
        self.assertEqual(itself(read_name("face 1.a by 3.2.b 1/2 up")), [origins("1.a"), origins("3.2.b")])
        self.assertEqual(itself(read_name("corner 2.a 1.a 1.b")), [origins("1.a"), origins("1.b"), origins("2.a")])


class Planes(unittest.TestCase):

    def test_found(self):
        body = slotted_block()
        self.assertEqual(went(body, "plane 1.a"), ("found", body.planes.index((Y, (3, 1)))))
        self.assertEqual(went(body, "plane 1.high"), ("found", body.planes.index((Z, (4, 1)))))

    def test_lost(self):
        self.assertEqual(went(slotted_block(), "plane 2.high"), LOST)
        self.assertEqual(went(slotted_block(), "plane 7.a"), LOST)
        self.assertEqual(went(slotted_block(), "plane 1.a", ""), LOST)

    def test_split(self):
        body = two_tops()
        low, high = body.planes.index((Z, (4, 1))), body.planes.index((Z, (6, 1)))
        self.assertEqual(went(body, "plane 1.high", "1.high 2.high"), ("split", [low, high]))
        self.assertEqual(went(body, "plane 1.high", "2.high 1.high"), ("split", [low, high]))

    def test_each_plane_once_in_the_order_of_the_pieces(self):
        body = body_of(block(1, "add", (2, 8), (3, 7), (1, 4)), block(2, "cut", (1, 9), (4, 5), (2, 5)),
                       block(3, "add", (0, 1), (0, 1), (0, 9)))
        wanted = "1.b 1.high 3.high 1.low"
        pieces = face_pieces(body, origins(wanted))
        order = []
        for piece in pieces:
            if piece[0] not in order:
                order.append(piece[0])
        self.assertLess(len(order), len(pieces))
        self.assertEqual(went(body, "plane 1.a", wanted), ("split", order))

    def test_pieces_that_look_both_ways(self):
        body = body_of(block(1, "add", (2, 4), (2, 4), (1, 3)), block(2, "add", (4, 6), (2, 4), (3, 5)))
        self.assertEqual(went(body, "plane 1.high", "1.high 2.low"), ("found", body.planes.index((Z, (3, 1)))))


class Faces(unittest.TestCase):

    def test_found(self):
        body = slotted_block()
        piece, = face_pieces(body, origins("1.b"))
        self.assertEqual(went(body, "face 1.b"), ("found", piece))
        self.assertEqual(went(body, "face 1.b up"), ("found", piece))
        self.assertEqual(went(body, "face 1.b down"), LOST)
        self.assertEqual(went(body, "face 1.low down")[0], "found")
        self.assertEqual(went(body, "face 1.low up"), LOST)

    def test_lost(self):
        self.assertEqual(went(slotted_block(), "face 2.high"), LOST)

    def test_split(self):
        body = slotted_block()
        pieces = face_pieces(body, origins("1.high"))
        self.assertEqual(len(pieces), 2)
        self.assertEqual(went(body, "face 1.high"), ("split", pieces))
        self.assertEqual(went(body, "face 1.high up"), ("split", pieces))
        self.assertEqual(went(body, "face 1.high down"), LOST)

    def test_the_facing_tells_pieces_apart(self):
        body = body_of(block(1, "add", (2, 4), (2, 4), (1, 3)), block(2, "add", (4, 6), (2, 4), (3, 5)))
        up, = face_pieces(body, origins("1.high"))
        down, = face_pieces(body, origins("2.low"))
        self.assertEqual(went(body, "face 1.high up", "1.high 2.low"), ("found", up))
        self.assertEqual(went(body, "face 1.high down", "1.high 2.low"), ("found", down))
        state, things = went(body, "face 1.high", "1.high 2.low")
        self.assertEqual((state, len(things)), ("split", 2))

    def test_several_origins(self):
        body = slotted_block()
        state, things = went(body, "face 1.b up", "1.b 2.low 1.high 1.a 1.low")
        self.assertEqual(state, "split")
        self.assertEqual(things, [piece for piece in face_pieces(body, origins("1.b 2.low 1.high 1.a 1.low")) if piece[1]])


class Pieces(unittest.TestCase):

    def test_found(self):
        body = slotted_block()
        first, second = face_pieces(body, origins("1.high"))
        self.assertEqual(facet(body, first)[1][0], points((2, 3, 4))[0])
        self.assertEqual(went(body, "face 1.high by 1.b 1/2"), ("found", first))
        self.assertEqual(went(body, "face 1.high by 1.b 2/2"), ("found", second))
        self.assertEqual(went(body, "face 1.high by 1.b 2/2 up"), ("found", second))
        self.assertEqual(went(body, "face 1.high by 1.a 1/1"), ("found", first))

    def test_a_number_that_does_not_fit(self):
        body = slotted_block()
        pieces = face_pieces(body, origins("1.high"))
        for text in ("face 1.high by 1.b 1/1", "face 1.high by 1.b 1/3", "face 1.high by 1.a 2/2", "face 1.high by 2.low 1/1"):
            self.assertEqual(went(body, text), ("split", pieces), text)

    def test_the_facing(self):
        body = slotted_block()
        self.assertEqual(went(body, "face 1.high by 1.b 1/2 down"), LOST)
        self.assertEqual(went(body, "face 1.high by 1.b 1/3 down"), LOST)
        self.assertEqual(went(body, "face 1.low by 1.b 1/1 down")[0], "found")

    def test_lost(self):
        self.assertEqual(went(slotted_block(), "face 2.high by 1.b 1/1"), LOST)

    def test_one_piece_that_does_not_fit_is_split(self):
        body = plain_block()
        piece, = face_pieces(body, origins("1.high"))
        self.assertEqual(went(body, "face 1.high by 1.a 1/2"), ("split", [piece]))
        self.assertEqual(went(body, "face 1.high by 7.a 1/1"), ("split", [piece]))

    def test_edges_on_two_lines(self):
        body = plain_block()
        piece, = face_pieces(body, origins("1.high"))
        self.assertEqual(went(body, "face 1.high by 1.a 1/2", "1.high", "1.a 1.c"), ("split", [piece]))
        self.assertEqual(went(body, "face 1.high by 1.a 1/2", "1.high", "1.a 1.b"), ("split", [piece]))

    def test_a_face_that_has_not_all_of_the_edge(self):
        # A groove comes to a point at the edge, so that the edge goes on but the face does not.
        body = body_of(block(1, "add", (2, 8), (3, 7), (1, 4)), sketch(2, (
            'cut at ("5", "3", "2") u (1, 0, 0) v (0, 1, 0) w (0, 0, 1) { line a (1, 1) through "0" "0";'
            ' line b (1, -1) through "0" "0"; } area left a & left b; from "0" to "9";')))
        edge, = edge_pieces(body, origins("1.a"), origins("1.high"))
        self.assertEqual(edge[1:3], tuple(points((2, 3, 4), (8, 3, 4))))
        pieces = face_pieces(body, origins("1.high"))
        self.assertEqual(len(pieces), 2)
        self.assertEqual(went(body, "edge 1.a 1.high 1/1"), ("found", edge))
        self.assertEqual(went(body, "face 1.high by 1.a 1/1"), ("split", pieces))
        self.assertEqual(went(body, "face 1.high by 1.d 1/1"), ("found", pieces[0]))

    def test_two_faces_at_one_edge(self):
        # Both the top and the wall below it are faces of the first place, and both have the edge all along.
        body = plain_block()
        pieces = face_pieces(body, origins("1.high 1.a"))
        self.assertEqual(len(pieces), 2)
        self.assertEqual(went(body, "face 1.high by 1.b 1/1", "1.high 1.a", "1.high 1.a"), ("split", pieces))
        self.assertEqual(went(body, "face 1.high by 1.b 1/1 up", "1.high 1.a", "1.high 1.a")[0], "found")

    def slow_piece(self, body, text, meant):
        kind, _, facing, (at, many) = read_name(text)
        first, second = [origins(words) for words in meant]
        edges = reference.edge_pieces(body, first, second)
        faces = [piece for piece in reference.face_pieces(body, first) if facing in ("", "up" if piece[1] else "down")]
        lines = {(edge[0], tuple(reference.products(normal, edge[1]) for normal in self.across(edge[0]))) for edge in edges}
        if len(edges) == many and len(lines) == 1:
            closure = reference.in_closure
            found = [face for face in faces if all(any(closure(cell, flat[0]) for flat in face[2]) for cell, _ in edges[at - 1][3])]
            if len(found) == 1:
                return ("found", found[0])
        return ("split", faces) if faces else LOST

    def across(self, direction):
        return [reference.cross(direction, axis) for axis in (X, Y, Z)]

    def test_against_the_words_of_the_document(self):
        states = []
        for body in bodies():
            known = sorted({flat[3] for flat in body.flats()})
            for one in known[:4]:
                for other in known[:4]:
                    for text, meant in (("1.a by 1.b 1/1", ([one], [other])), ("1.a by 1.b 2/2 up", ([one], known[:4]))):
                        words = tuple(" ".join(reference_text(origin) for origin in part) for part in meant)
                        found = went(body, "face " + text, *words)
                        self.assertEqual(found, self.slow_piece(body, "face " + text, words))
                        states.append(found[0])
        self.assertEqual(sorted(set(states)), ["found", "lost", "split"])


def reference_text(origin):
    return ".".join(str(part) for part in (origin[0], *origin[1], origin[2]))


class Edges(unittest.TestCase):

    def test_found(self):
        body = slotted_block()
        first, second = edge_pieces(body, origins("1.b"), origins("1.high"))
        self.assertEqual(went(body, "edge 1.b 1.high 1/2"), ("found", first))
        self.assertEqual(went(body, "edge 1.high 1.b 2/2"), ("found", second))
        self.assertEqual(went(body, "edge 1.a 1.high 1/1")[0], "found")

    def test_a_number_that_does_not_fit(self):
        body = slotted_block()
        pieces = edge_pieces(body, origins("1.b"), origins("1.high"))
        self.assertEqual(went(body, "edge 1.b 1.high 1/1"), ("split", pieces))
        self.assertEqual(went(body, "edge 1.b 1.high 2/3"), ("split", pieces))
        one = edge_pieces(body, origins("1.a"), origins("1.high"))
        self.assertEqual(went(body, "edge 1.a 1.high 1/2"), ("split", one))

    def test_lost(self):
        self.assertEqual(went(slotted_block(), "edge 1.a 1.c 1/1"), LOST)
        self.assertEqual(went(slotted_block(), "edge 1.a 2.high 1/1"), LOST)

    def test_not_on_one_line(self):
        body = plain_block()
        for meant in ("1.a 1.c", "1.a 1.b"):
            pieces = edge_pieces(body, origins("1.high"), origins(meant))
            self.assertEqual(len(pieces), 2)
            self.assertEqual(went(body, "edge 1.high 1.a 1/2", "1.high", meant), ("split", pieces))

    def test_on_one_line(self):
        body = slotted_block()
        pieces = edge_pieces(body, origins("1.b"), origins("1.high 2.low"))
        self.assertEqual(len(pieces), 3)
        self.assertEqual(went(body, "edge 1.b 1.high 1/3", "1.b", "1.high 2.low"), ("split", pieces))
        two = edge_pieces(body, origins("1.b 1.d"), origins("1.high"))
        self.assertEqual(went(body, "edge 1.b 1.high 1/4", "1.b 1.d", "1.high"), ("split", two))


class Corners(unittest.TestCase):

    def test_found(self):
        self.assertEqual(went(slotted_block(), "corner 1.a 1.b 1.high"), ("found", points((8, 3, 4))[0]))
        self.assertEqual(went(slotted_block(), "corner 2.low 1.b 2.a"), ("found", points((8, 4, 2))[0]))

    def test_lost(self):
        self.assertEqual(went(slotted_block(), "corner 1.a 1.b 2.a"), LOST)

    def test_split(self):
        body = slotted_block()
        self.assertEqual(went(body, "corner 1.d 1.high 2.a", "1.d", "1.high", "2.a 2.c"), ("split", points((2, 4, 4), (2, 5, 4))))
        whole = origins("1.a 1.b 1.c 1.d 1.high 1.low")
        name = read_name("corner 1.a 1.b 1.c")
        self.assertEqual(look(body, name, [whole] * 3), ("split", corner_points(body, whole, whole, whole)))


class Arguments(unittest.TestCase):

    def test_what_is_handed_in_does_not_change(self):
        body, name = slotted_block(), read_name("face 1.high by 1.b 1/1")
        meant = itself(name)
        before = look(body, name, meant)
        look(body, name, meant)[1].clear()
        self.assertEqual(look(body, name, meant), before)
        self.assertEqual(meant, [origins("1.high"), origins("1.b")])

    def test_an_empty_body(self):
        for text in ("plane 1.a", "face 1.a up", "face 1.a by 1.b 1/1", "edge 1.a 1.b 1/1", "corner 1.a 1.b 1.c"):
            self.assertEqual(went(body_of(), text), LOST)


if __name__ == "__main__":
    unittest.main()
