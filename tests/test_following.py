"""Points 80, 81 and 82: following."""

import random
import unittest

import trail_reference
from parts import declared, document, inserted
from solids import block, block_text, body_of, origins, plain_block, slotted_block
from truepart.cells import dimension
from truepart.corners import corner_points
from truepart.edges import edge_pieces
from truepart.edits import apply
from truepart.faces import face_pieces
from truepart.following import cells_of, follow, things_of
from truepart.making import make
from truepart.names import itself
from truepart.nametexts import read_name
from truepart.numbers import fraction
from truepart.planes import sides
from truepart.ways import at_place, sample, stages, way_to

BLOCK = block_text("add", (2, 8), (3, 7), (1, 4))


def passing(start, *more):
    """A block, and a slot from x = w to x = w + 1 all along y and down to z = 2."""
    slot = block_text("cut", ("w", "w + 1"), (2, 9), (2, 5))
    return document(declared("w", start, "-20", "50"), inserted(BLOCK), inserted(slot), *[inserted(text) for text in more])


def to(found, goal):
    return way_to(found, [("w", (goal, 1))])


def followed(found, goal, text, *meant):
    """For each stage where it begins, told by w, and how many things there are and at which of them the name is."""
    way = to(found, goal)
    name = read_name(text)
    wanted = [origins(words) for words in meant] if meant else itself(name)
    rows = follow(found, way, name, wanted)
    assert [row[0] for row in rows] == stages(found, way)
    told = []
    for stage, at in rows:
        body = make(found, at_place(way, sample(stage)))[0]
        things = [cells_of(body, name, thing) for thing in things_of(body, name, wanted)]
        assert at == [cells for cells in things if cells in at]
        place = [fraction(*at_place(way, edge)[0]) for edge in stage]
        where = [part[0] if part[1] == 1 else part for part in place]
        told.append((where[0] if where[0] == where[1] else tuple(where), len(things), [things.index(cells) for cells in at]))
    return told


class Things(unittest.TestCase):

    def test_edges(self):
        body = slotted_block()
        name = read_name("edge 1.b 1.high 2/2")
        meant = [origins("1.b 1.d"), origins("1.high")]
        found = things_of(body, name, meant)
        self.assertEqual(found, edge_pieces(body, meant[0], meant[1]))
        self.assertEqual(len(found), 4)
        for piece in found:
            self.assertEqual(cells_of(body, name, piece), [signs for signs, _ in piece[3]])
            for signs in cells_of(body, name, piece):
                self.assertEqual(dimension(signs, body.planes), 1)

    def test_edges_of_several_segments(self):
        body = slotted_block()
        name = read_name("edge 1.b 1.low 1/1")
        piece, = things_of(body, name, itself(name))
        found = cells_of(body, name, piece)
        # From y = 3 on: the planes of the slot part the edge.
        self.assertEqual(len(found), 3)
        ahead = [[signs[body.planes.index(((0, 1, 0), (y, 1)))] for y in (4, 5)] for signs in found]
        self.assertEqual(ahead, [[-1, -1], [1, -1], [1, 1]])

    def test_corners(self):
        body = slotted_block()
        name = read_name("corner 1.b 1.high 2.a")
        meant = [origins("1.b 1.d"), origins("1.high"), origins("2.a 2.c")]
        found = things_of(body, name, meant)
        self.assertEqual(found, corner_points(body, *meant))
        self.assertEqual(len(found), 4)
        for point in found:
            self.assertEqual(cells_of(body, name, point), [sides(body.planes, point)])

    def test_all_other_names(self):
        body = slotted_block()
        for text in ("plane 1.high", "face 1.high", "face 1.high down", "face 1.high by 1.b 1/2 up"):
            name = read_name(text)
            meant = [origins("1.high 1.low")] + [origins("1.b")] * (name[0] == "piece")
            found = things_of(body, name, meant)
            # Those that look down are among them.
            self.assertEqual(found, face_pieces(body, meant[0]))
            self.assertEqual([piece[1] for piece in found].count(False), 1)
            self.assertEqual(len(found), 3)
            for piece in found:
                self.assertEqual(cells_of(body, name, piece), [flat[0] for flat in piece[2]])

    def test_none(self):
        for text in ("edge 7.a 7.b 1/1", "corner 7.a 7.b 7.c", "face 7.a", "edge 1.a 1.c 1/1"):
            name = read_name(text)
            self.assertEqual(things_of(plain_block(), name, itself(name)), [])


class Faces(unittest.TestCase):

    def test_a_face_that_parts(self):
        # At w = 2 there is the part from x = 3 on alone; the part from x = 2 to x = w comes behind it.
        self.assertEqual(followed(passing("0"), 4, "face 1.high"), [
            (0, 1, [0]), ((0, 1), 1, [0]), (1, 1, [0]), ((1, 2), 1, [0]), (2, 1, [0]), ((2, 4), 2, [1]), (4, 2, [1])])

    def test_a_part_that_vanishes(self):
        self.assertEqual(followed(passing("0"), 10, "face 1.high")[5:], [
            ((2, 7), 2, [1]), (7, 1, []), ((7, 8), 1, []), (8, 1, []), ((8, 9), 1, []), (9, 1, []), ((9, 10), 1, []), (10, 1, [])])

    def test_a_face_that_joins(self):
        # Split at the start, and so at all pieces.
        self.assertEqual(followed(passing("6"), 9, "face 1.high"), [
            (6, 2, [0, 1]), ((6, 7), 2, [0, 1]), (7, 1, [0]), ((7, 8), 1, [0]), (8, 1, [0]), ((8, 9), 1, [0]), (9, 1, [0])])

    def test_a_face_that_is_there_at_one_place_alone(self):
        # The low face of the slot lies on the face of the block below it where the slot ends at z = w.
        slot = block_text("cut", (3, 4), (2, 9), ("w", 5))
        found = document(declared("w", "3", "0", "9"), inserted(BLOCK), inserted(slot))
        self.assertEqual(followed(found, 6, "face 2.low"), [
            (3, 1, [0]), ((3, 4), 1, [0]), (4, 0, []), ((4, 5), 0, []), (5, 0, []), ((5, 6), 0, []), (6, 0, [])])

    def test_facing(self):
        # If it is split, the name is at all things whichever way they look; if it is found, at the one.
        meant = "1.high 1.low"
        self.assertEqual(followed(passing("6"), 9, "face 1.high up", meant)[:4],
                         [(6, 3, [0, 1, 2]), ((6, 7), 3, [0, 1, 2]), (7, 2, [0, 1]), ((7, 8), 2, [0, 1])])
        down = followed(passing("6"), 9, "face 1.high down", meant)
        self.assertEqual([row[1:] for row in down], [(3, [0])] * 2 + [(2, [0])] * 5)
        self.assertEqual(followed(passing("6"), 9, "face 1.high down")[:3], [(6, 2, []), ((6, 7), 2, []), (7, 1, [])])

    def test_pieces_must_look_the_same_way(self):
        # Behind w = 4 there come a gap and a plate out of the top of a block: two faces look up, one between them down.
        rows = [block_text("add", (0, 3), (0, 9), (1, "w")), block_text("add", (0, 3), (0, 9), (4, "8 - w"))]
        found = document(declared("w", "4", "0", "9"), *[inserted(text) for text in rows])
        meant = "1.high 2.low 2.high"
        facing = [piece[1] for piece in face_pieces(make(found, [(3, 1)])[0], origins(meant))]
        self.assertEqual(sorted(facing), [False, True, True])
        ups = [k for k in range(3) if facing[k]]
        self.assertEqual(followed(found, 3, "face 1.high", meant), [(4, 1, [0]), ((4, 3), 3, ups), (3, 3, ups)])
        # And back: those that look up come together, the one that looks down goes to nothing.
        back = document(declared("w", "3", "0", "9"), *[inserted(text) for text in rows])
        for words in ("2.high 1.high", "2.low 1.high"):
            self.assertEqual([row[1:] for row in followed(back, 4, "face 1.high", words)], [(2, [0, 1])] * 2 + [(1, [0])])
        rows = followed(back, 4, "face 2.low down", "2.low 1.high")
        self.assertEqual([len(row[2]) for row in rows], [1, 1, 0])

    def test_a_piece_goes_on_under_another_origin(self):
        # A half that comes into the room at x = 0: what was the side of the room is the half's from w = 0 on.
        found = document(declared("w", "-2", "-9", "20"), inserted('add half (1, 0, 0) at ("w", "0", "0");'))
        self.assertEqual(followed(found, 12, "face 0.xl", "0.xl 1.half"), [
            (-2, 1, [0]), ((-2, 0), 1, [0]), (0, 1, [0]), ((0, 10), 1, [0]), (10, 0, []), ((10, 12), 0, []), (12, 0, [])])
        self.assertEqual(followed(found, 12, "face 0.xl")[:4], [(-2, 1, [0]), ((-2, 0), 1, [0]), (0, 0, []), ((0, 10), 0, [])])
        self.assertEqual(followed(found, 12, "face 1.half")[:4], [(-2, 0, []), ((-2, 0), 0, []), (0, 1, []), ((0, 10), 1, [])])

    def test_planes(self):
        # A plane's name begins at all pieces on its plane, here three.
        found = passing("4", block_text("cut", (1, 9), (4, 5), (3, 5)))
        rows = followed(found, 9, "plane 1.high")
        self.assertEqual(rows[0], (4, 4, [0, 1, 2, 3]))
        self.assertEqual([row[1:] for row in rows[2:4]], [(2, [0, 1])] * 2)
        # If it is split, it begins at all pieces, whatever their planes.
        self.assertEqual(followed(passing("4"), 9, "plane 1.high", "1.high 1.low")[0], (4, 3, [0, 1, 2]))

    def test_faces_by_an_edge(self):
        # The face of the block by the first of its two edges with its side at y = 3.
        rows = followed(passing("4"), 9, "face 1.high by 1.a 1/2")
        self.assertEqual(rows[:4], [(4, 2, [0]), ((4, 7), 2, [0]), (7, 1, [0]), ((7, 8), 1, [0])])
        rows = followed(passing("4"), 9, "face 1.high by 1.a 2/2")
        self.assertEqual(rows[:4], [(4, 2, [1]), ((4, 7), 2, [1]), (7, 1, []), ((7, 8), 1, [])])
        self.assertEqual(followed(passing("4"), 9, "face 1.high by 1.a 1/1")[0], (4, 2, [0, 1]))


class EdgesAndCorners(unittest.TestCase):

    def test_edges(self):
        # The edge of the top and the side at y = 3, from x = 2 to x = 8, which the slot parts.
        self.assertEqual(followed(passing("0"), 4, "edge 1.high 1.a 1/1")[4:], [(2, 1, [0]), ((2, 4), 2, [1]), (4, 2, [1])])
        self.assertEqual(followed(passing("5"), 9, "edge 1.high 1.a 1/2")[:4], [(5, 2, [0]), ((5, 7), 2, [0]), (7, 1, [0]), ((7, 8), 1, [0])])
        self.assertEqual(followed(passing("5"), 9, "edge 1.high 1.a 1/1")[:3], [(5, 2, [0, 1]), ((5, 7), 2, [0, 1]), (7, 1, [0])])
        self.assertEqual(followed(passing("5"), 9, "edge 1.high 1.a 2/2")[:3], [(5, 2, [1]), ((5, 7), 2, [1]), (7, 1, [])])

    def test_the_edge_of_a_slot(self):
        # The edge of the top and the slot's side at x = w: it is there from w = 2 up to w = 8, without its ends.
        rows = followed(passing("3"), 9, "edge 1.high 2.d 1/1")
        self.assertEqual(rows, [(3, 1, [0]), ((3, 7), 1, [0]), (7, 1, [0]), ((7, 8), 1, [0]), (8, 0, []), ((8, 9), 0, []), (9, 0, [])])

    def test_corners(self):
        rows = followed(passing("3"), 9, "corner 1.high 2.d 1.a")
        self.assertEqual(rows[:5], [(3, 1, [0]), ((3, 7), 1, [0]), (7, 1, [0]), ((7, 8), 1, [0]), (8, 0, [])])
        # Corners of two sides of the slot, of which one leaves.
        rows = followed(passing("6"), 9, "corner 1.high 2.d 1.a", "1.high", "2.d 2.b", "1.a")
        self.assertEqual(rows[:5], [(6, 2, [0, 1]), ((6, 7), 2, [0, 1]), (7, 1, [0]), ((7, 8), 1, [0]), (8, 0, [])])

    def test_a_corner_to_which_others_come(self):
        # Two blocks whose tops come to one height where they touch at a point.
        rows = [block_text("add", (1, 3), (1, 3), (1, "w")), block_text("add", (3, 5), (3, 5), (1, 4))]
        found = document(declared("w", "3", "0", "9"), *[inserted(text) for text in rows])
        told = followed(found, 5, "corner 1.b 1.c 1.high", "1.b 2.d", "1.c 2.a", "1.high 2.high")
        self.assertEqual(told[0], (3, 2, [0, 1]))
        self.assertEqual([row[1:] for row in told[2:4]], [(1, [0]), (2, [0, 1])])
        # Found at the start at one of the two, it goes on to both behind the place at which they meet.
        self.assertEqual([row[2] for row in followed(found, 5, "corner 1.b 1.c 1.high")], [[0]] * len(told))


class Follow(unittest.TestCase):

    def test_a_lost_name_stays_at_nothing(self):
        self.assertEqual([row[2] for row in followed(passing("0"), 4, "face 2.low")], [[]] * 7)

    def test_a_way_that_stands_still(self):
        self.assertEqual(followed(passing("4"), 4, "face 1.high"), [(4, 2, [0, 1])] * 3)

    def test_there_and_back(self):
        self.assertEqual(followed(passing("4"), 0, "face 1.high"), [
            (4, 2, [0, 1]), ((4, 2), 2, [0, 1]), (2, 1, [0]), ((2, 1), 1, [0]), (1, 1, [0]), ((1, 0), 1, [0]), (0, 1, [0])])

    def test_features_that_are_not_always_made(self):
        # Feature 3 stands at a face that is there only while the slot is in the block.
        found = passing("0", 'cut half (0, 0, 1) at "face 2.low" plus ("0", "0", "1");')
        rows = followed(found, 10, "face 1.high by 1.b 1/1")
        self.assertEqual([row[:2] for row in rows if row[1] == 0], [((1, 2), 0), (2, 0), ((2, 7), 0), (7, 0), ((7, 8), 0)])
        self.assertEqual([row[2] for row in rows][:4], [[0], [0], [0], []])
        # The name means the top of the block and the half that cuts it away.
        rows = followed(found, 10, "face 1.high", "1.high 3.half")
        self.assertEqual(rows[:4], [(0, 1, [0]), ((0, 1), 1, [0]), (1, 1, [0]), ((1, 2), 1, [])])

    def test_the_place_beside_is_near_enough(self):
        # Feature 5 is made at w = 3 alone, where both corners are found that it needs. Its lines are to the left and to
        # the right of feature 1 there; behind w = 3 the one goes quickly past it, and in front of w = 3 the other.
        sketch = ('cut at "corner 1.c 3.d 3.high" u (1, 0, 0) v (0, 1, 0) w (0, 0, 1) {'
                  ' line a (0, 1) through "100*w - 605/2" "0"; line b (0, 1) through "100*w - 599/2" "0"; }'
                  ' area left a & right a; from "1" to on "plane 4.half";')
        found = document(
            declared("w", "2", "0", "9"), inserted(block_text("add", (1, 3), (1, 3), (1, 5))),
            inserted(block_text("add", ("w", "w + 2"), (3, 5), (1, 2))),
            inserted(block_text("add", ("6 - w", "8 - w"), (3, 5), (3, 4))),
            inserted('cut half (0, 0, 1) at "corner 1.c 2.d 2.high" plus ("0", "0", "5/2");'), inserted(sketch))
        made = [[row[2] for row in make(found, [(w, 2)])[1]].count("") for w in (5, 6, 7)]
        self.assertEqual(made, [4, 5, 3])
        for start, goal in [("2", 4), ("4", 2)]:
            found, _ = apply(found, ("set", "w", (int(start), 1)))
            for text in ("face 1.low", "edge 1.low 1.a 1/1", "corner 1.low 1.a 1.b"):
                self.assertEqual([row[1:] for row in followed(found, goal, text)], [(1, [0])] * len(stages(found, to(found, goal))))

    def test_as_the_document_says(self):
        chance = random.Random(81)
        for _ in range(3):
            found, goals, name, meant = random_case(chance)
            way = way_to(found, goals)
            self.assertEqual(follow(found, way, name, meant), trail_reference.follow(found, way, name, meant))


def random_case(chance):
    """A small document, where its parameters go, and a name."""
    def part():
        return chance.choice(["1", "3", "4", "w", "w + 1", "v", "5 - w"])

    edits = [declared("w", str(chance.randint(0, 2)), "-9", "9"), declared("v", "3", "-9", "9"),
             inserted(block_text("add", (1, 4), (0, "v"), (1, 3)))]
    for _ in range(2):
        op = chance.choice(["add", "cut"])
        half = f'{op} half {chance.choice([(1, 0, 0), (0, 0, 1), (1, 1, 0)])} at ("{part()}", "{part()}", "{part()}");'
        box = block_text(op, ("w", "w + 1"), (chance.randint(0, 1), part()), (2, part()))
        edits.append(inserted(chance.choice([half, box])))
    found = document(*edits)
    found.low, found.high = ((0, 1),) * 3, ((5, 1),) * 3
    one, other, third = chance.sample(["1.a", "1.b", "1.c", "1.high", "1.low", "1.d"], 3)
    name = read_name(chance.choice([f"plane {one}", f"face {one} up", f"face {one} by {other} 1/1", f"edge {one} {other} 1/1",
                                    f"corner {one} {other} {third}"]))
    meant = itself(name)
    if chance.random() < 0.5:
        meant[0].append(origins("0.xl")[0])
    return found, [("w", (chance.randint(2, 5), 1)), ("v", (chance.randint(1, 4), 1))], name, meant


if __name__ == "__main__":
    unittest.main()
