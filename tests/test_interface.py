"""The names and arguments of the interface, each in the file under which it is listed."""

import importlib
import inspect
import unittest

INTERFACE = {
    "numbers": [
        "fraction(number, divisor=1)", "plus(a, b)", "minus(a, b)", "times(a, b)", "over(a, b)", "negative(a)",
        "less(a, b)", "sign(a)", "middle(a, b)", "total(row)", "common(a, b)", "told(a)", "read_fraction(text)"],
    "affine": [
        "constant(base, many)", "parameter(at, many)", "add(a, b)", "subtract(a, b)", "scale(factor, a)", "opposite(a)",
        "is_nought(a)", "value(a, setting)"],
    "expressions": [
        "is_parameter_name(text)", "read_expression(names, text)", "expression_text(names, found)", "is_short(found)"],
    "tokens": ["tokens(text)", "position(text, place)"],
    "areas": ["read_area(lines, text)", "area_text(area)", "area_holds(area, left)"],
}


class Interface(unittest.TestCase):

    def test_functions(self):
        for module, lines in INTERFACE.items():
            found = importlib.import_module("truepart." + module)
            for line in lines:
                name = line.partition("(")[0]
                function = getattr(found, name)
                self.assertEqual(name + str(inspect.signature(function)), line, module)
                self.assertEqual(function.__module__, "truepart." + module)


if __name__ == "__main__":
    unittest.main()
