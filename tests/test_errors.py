"""Point 5: the errors."""

import unittest

from truepart import errors
from truepart.errors import NoSide, PartError, TextFault


class Errors(unittest.TestCase):

    def test_all_derive_from_part_error(self):
        self.assertTrue(issubclass(PartError, ValueError))
        for name in ("TextFault", "Nought", "Unknown", "Taken", "Beyond", "Full", "NoSide", "Stuck", "Unplaced"):
            found = getattr(errors, name)
            self.assertTrue(issubclass(found, PartError), name)
            self.assertIsNot(found, PartError)

    def test_kinds_are_different(self):
        for name in ("Nought", "Unknown", "Taken", "Beyond", "Full", "Stuck", "Unplaced"):
            made = getattr(errors, name)("why")
            for other in ("TextFault", "Nought", "Unknown", "Taken", "Beyond", "Full", "NoSide", "Stuck", "Unplaced"):
                self.assertEqual(isinstance(made, getattr(errors, other)), name == other)

    def test_text_fault_has_line_and_column(self):
        fault = TextFault(3, 14)
        self.assertEqual((fault.line, fault.column), (3, 14))

    def test_no_side_has_origin(self):
        self.assertEqual(NoSide("3.a").origin, "3.a")


if __name__ == "__main__":
    unittest.main()
