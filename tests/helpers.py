"""What several tests need."""

import unittest

from truepart.errors import PartError, TextFault


class FaultCase(unittest.TestCase):
    """Tests that ask where a text is at fault."""

    def assert_fault(self, line, column, call, *arguments):
        with self.assertRaises(TextFault, msg=repr(arguments)) as caught:
            call(*arguments)
        place = (caught.exception.line, caught.exception.column)
        self.assertEqual(place, (line, column), repr(arguments))
        self.assertIsInstance(caught.exception, PartError)
        self.assertIsInstance(caught.exception, ValueError)


def fault_of(call, *arguments):
    """The line and the column of a fault, or None if there is none."""
    try:
        call(*arguments)
    except TextFault as fault:
        return (fault.line, fault.column)
    return None
