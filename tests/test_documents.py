"""Point 68: documents."""

import unittest

from parts import BLOCK, declared, document, inserted, meant, snapshot
from truepart.documents import Document
from truepart.errors import Unknown
from truepart.features import read_feature
from truepart.nametexts import read_name
from truepart.writing import rewritten

LOW, HIGH = ((0, 1),) * 3, ((10, 1),) * 3


def full_document():
    return document(declared("w", "2"), declared("h", "3/2"), inserted(BLOCK),
                    inserted('cut half (1, 0, 0) at "face 1.b" plus ("w", "0", "0");'), ("keep", "edge 1.b 1.a 1/1"))


class Documents(unittest.TestCase):

    def test_at_first_there_is_nothing(self):
        found = Document(LOW, HIGH)
        self.assertEqual(snapshot(found), (LOW, HIGH, [], [], [], 0, 0))
        self.assertEqual((found.names(), found.setting()), ([], []))
        with self.assertRaises(Unknown):
            found.place(1)

    def test_fields(self):
        found = full_document()
        self.assertEqual(found.parameters, [["w", (2, 1), (0, 1), (10, 1)], ["h", (3, 2), (0, 1), (10, 1)]])
        self.assertEqual(found.names(), ["w", "h"])
        self.assertEqual(found.setting(), [(2, 1), (3, 2)])
        self.assertEqual((found.last_feature, found.last_name), (2, 1))
        text = 'cut half (1, 0, 0) at "face 1.b" plus ("w", "0", "0");\n'
        self.assertEqual(found.features, [
            {"number": 1, "text": rewritten(["w", "h"], BLOCK), "feature": read_feature(["w", "h"], BLOCK), "means": [],
             "suppressed": False},
            {"number": 2, "text": text, "feature": read_feature(["w", "h"], text), "means": [[meant("1.b")]],
             "suppressed": False}])
        self.assertEqual(found.kept, [
            {"number": 1, "name": read_name("edge 1.a 1.b 1/1"), "means": [meant("1.a"), meant("1.b")]}])

    def test_place(self):
        found = document(inserted(BLOCK), inserted(BLOCK), inserted(BLOCK), ("move", 3, 0), ("remove", 1))
        self.assertEqual([row["number"] for row in found.features], [3, 2])
        self.assertEqual((found.place(3), found.place(2)), (0, 1))
        for number in (0, 1, 4):
            with self.assertRaises(Unknown):
                found.place(number)

    def test_returned_lists_are_new(self):
        found = full_document()
        found.names().append("x")
        found.setting().append((1, 1))
        self.assertEqual((found.names(), found.setting()), (["w", "h"], [(2, 1), (3, 2)]))

    def test_a_copy_is_the_same(self):
        found = full_document()
        other = found.copied()
        self.assertIsInstance(other, Document)
        self.assertEqual(snapshot(other), snapshot(found))

    def test_a_copy_has_nothing_in_common(self):
        found, kept = full_document(), full_document()
        other = found.copied()
        other.parameters[0][1] = (9, 1)
        other.parameters.append(["x", (1, 1), (0, 1), (2, 1)])
        other.features[1]["suppressed"] = True
        other.features[1]["means"][0][0].append((0, (), "xl"))
        other.features[1]["means"][0].append([])
        other.features[1]["means"].append([])
        other.features[0]["feature"]["lines"].pop()
        other.features[0]["feature"]["dimensions"].append(None)
        other.features[0]["feature"]["op"] = "cut"
        other.features.pop(0)
        other.kept[0]["means"][0].clear()
        other.kept[0]["means"].pop()
        other.kept[0]["number"] = 5
        other.kept.clear()
        other.last_feature = 7
        other.last_name = 7
        self.assertEqual(snapshot(found), snapshot(kept))


if __name__ == "__main__":
    unittest.main()
