"""The names and arguments of the interface, each in the file under which it is listed."""

import importlib
import inspect
import unittest

INTERFACE = {
    "numbers": [
        "fraction(number, divisor=1)", "plus(a, b)", "minus(a, b)", "times(a, b)", "over(a, b)", "negative(a)",
        "less(a, b)", "sign(a)", "middle(a, b)", "total(row)", "common(a, b)", "told(a)", "read_fraction(text)"],
    "affine": [
        "constant(base, many)", "parameter(at, many)", "add(a, b)", "subtract(a, b)", "scale(factor, a)", "opposite(a)",
        "is_nought(a)", "value(a, setting)"],
    "expressions": [
        "is_parameter_name(text)", "read_expression(names, text)", "expression_text(names, found)", "is_short(found)"],
    "tokens": ["tokens(text)", "position(text, place)"],
    "vectors": [
        "dot(a, b)", "cross(a, b)", "volume(a, b, c)", "primitive(a)", "along(normal, point)", "plane_of(normal, offset)",
        "parallel(a, b)"],
    "planes": [
        "dot(a, b)", "cross(a, b)", "triple(a, b, c)", "is_parallel(a, b)", "canonical(direction)", "divisor(direction)",
        "plane(direction, offset)", "along(direction, point)", "side(wall, point)", "sides(walls, point)",
        "independent(normals)", "meeting(first, second, third)"],
    "origins": ["is_side_name(text)", "read_origin(text)", "origin_text(origin)"],
    "nametexts": ["read_name(text)", "name_text(name)"],
    "features": ["read_feature(names, text)"],
    "writing": ["feature_text(names, feature)", "rewritten(names, text)", "spots(feature)", "side_names(feature)"],
    "areas": ["read_area(lines, text)", "area_text(area)", "area_holds(area, left)"],
}


class Interface(unittest.TestCase):

    def test_functions(self):
        for module, lines in INTERFACE.items():
            found = importlib.import_module("truepart." + module)
            for line in lines:
                name = line.partition("(")[0]
                function = getattr(found, name)
                self.assertEqual(name + str(inspect.signature(function)), line, module)
                self.assertEqual(function.__module__, "truepart." + module)


if __name__ == "__main__":
    unittest.main()
