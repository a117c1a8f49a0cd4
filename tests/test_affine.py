"""Point 9: values."""

import unittest

from truepart.affine import add, constant, is_nought, opposite, parameter, scale, subtract, value

A = ((1, 2), ((1, 3), (-2, 1)))
B = ((-1, 3), ((2, 3), (1, 1)))


class Values(unittest.TestCase):

    def test_constant(self):
        self.assertEqual(constant((3, 4), 0), ((3, 4), ()))
        self.assertEqual(constant((3, 4), 1), ((3, 4), ((0, 1),)))
        self.assertEqual(constant((-3, 4), 3), ((-3, 4), ((0, 1), (0, 1), (0, 1))))

    def test_parameter(self):
        self.assertEqual(parameter(0, 1), ((0, 1), ((1, 1),)))
        self.assertEqual(parameter(0, 3), ((0, 1), ((1, 1), (0, 1), (0, 1))))
        self.assertEqual(parameter(2, 3), ((0, 1), ((0, 1), (0, 1), (1, 1))))

    def test_add_and_subtract(self):
        self.assertEqual(add(A, B), ((1, 6), ((1, 1), (-1, 1))))
        self.assertEqual(subtract(A, B), ((5, 6), ((-1, 3), (-3, 1))))
        self.assertEqual(subtract(A, A), ((0, 1), ((0, 1), (0, 1))))
        self.assertEqual(add(((1, 2), ()), ((1, 2), ())), ((1, 1), ()))
        self.assertEqual(subtract(((1, 2), ()), ((1, 3), ())), ((1, 6), ()))

    def test_scale_and_opposite(self):
        self.assertEqual(scale((-3, 2), A), ((-3, 4), ((-1, 2), (3, 1))))
        self.assertEqual(scale((0, 1), A), ((0, 1), ((0, 1), (0, 1))))
        self.assertEqual(scale((2, 1), ((1, 2), ())), ((1, 1), ()))
        self.assertEqual(opposite(A), ((-1, 2), ((-1, 3), (2, 1))))
        self.assertEqual(opposite(((0, 1), ())), ((0, 1), ()))

    def test_is_nought(self):
        self.assertIs(is_nought(((0, 1), ())), True)
        self.assertIs(is_nought(((1, 9), ())), False)
        self.assertIs(is_nought(((0, 1), ((0, 1), (0, 1)))), True)
        self.assertIs(is_nought(((0, 1), ((0, 1), (-1, 9)))), False)
        self.assertIs(is_nought(((1, 9), ((0, 1), (0, 1)))), False)

    def test_value(self):
        self.assertEqual(value(((5, 7), ()), []), (5, 7))
        self.assertEqual(value(A, [(0, 1), (0, 1)]), (1, 2))
        self.assertEqual(value(A, [(3, 2), (1, 4)]), (1, 2))
        self.assertEqual(value(A, [(-3, 1), (2, 1)]), (-9, 2))
        self.assertEqual(value(parameter(1, 2), [(8, 3), (4, 3)]), (4, 3))

    def test_what_is_handed_in_does_not_change(self):
        setting = [(3, 2), (1, 4)]
        value(A, setting)
        self.assertEqual(setting, [(3, 2), (1, 4)])

    def test_reckoning_goes_with_the_setting(self):
        setting = [(3, 5), (-7, 2)]
        self.assertEqual(value(add(A, B), setting), (64, 15))
        self.assertEqual(value(A, setting), (77, 10))
        self.assertEqual(value(B, setting), (-103, 30))


if __name__ == "__main__":
    unittest.main()
