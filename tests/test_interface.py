"""The names and arguments of the interface, each in the file under which it is listed."""

import importlib
import inspect
import unittest

INTERFACE = {
    "numbers": [
        "fraction(number, divisor=1)", "plus(a, b)", "minus(a, b)", "times(a, b)", "over(a, b)", "negative(a)",
        "less(a, b)", "sign(a)", "middle(a, b)", "total(row)", "common(a, b)", "told(a)", "read_fraction(text)"],
    "affine": [
        "constant(base, many)", "parameter(at, many)", "add(a, b)", "subtract(a, b)", "scale(factor, a)", "opposite(a)",
        "is_nought(a)", "value(a, setting)"],
    "expressions": [
        "is_parameter_name(text)", "read_expression(names, text)", "expression_text(names, found)", "is_short(found)"],
    "tokens": ["tokens(text)", "position(text, place)"],
    "vectors": [
        "dot(a, b)", "cross(a, b)", "volume(a, b, c)", "primitive(a)", "along(normal, point)", "plane_of(normal, offset)",
        "parallel(a, b)"],
    "planes": [
        "dot(a, b)", "cross(a, b)", "triple(a, b, c)", "is_parallel(a, b)", "canonical(direction)", "divisor(direction)",
        "plane(direction, offset)", "along(direction, point)", "side(wall, point)", "sides(walls, point)",
        "independent(normals)", "meeting(first, second, third)"],
    "origins": ["is_side_name(text)", "read_origin(text)", "origin_text(origin)"],
    "nametexts": ["read_name(text)", "name_text(name)"],
    "features": ["read_feature(names, text)"],
    "writing": ["feature_text(names, feature)", "rewritten(names, text)", "spots(feature)", "side_names(feature)"],
    "areas": ["read_area(lines, text)", "area_text(area)", "area_holds(area, left)"],
    "cells": [
        "walls(low, high)", "is_inside(point, low, high)", "before(a, b)", "in_order(points)",
        "vertices(planes, low, high)", "arrange(planes, low, high)", "dimension(signs, planes)",
        "in_closure(small, large)", "centre(points)", "count_cells(planes, low, high)"],
    "circuits": ["circuits(normals)", "form(circuit, offsets)", "vanishes(circuit, normals)"],
    "constraints": ["solve(rows, many)", "meets(row, point)"],
    "sketches": ["solve_sketch(lines, dimensions)"],
    "tools": [
        "sketch_tool(number, feature, base, ends)", "half_tool(number, feature, offset)",
        "shifted_tool(number, k, tool, shift)", "mirrored_tool(number, k, tool, direction, at)", "spread(normal, point)"],
    "bodies": [
        "test_holds(test, sides, signs)", "after_tool(op, state, there)", "room_planes(low, high)"],
    "placing": ["placed_body(low, high, tools, setting)"],
    "measures": ["area_of(polygons, normal)", "length_of(direction, start, end)", "volume(body)"],
    "faces": ["face_pieces(body, origins)", "facet(body, piece)", "faces(body)"],
    "edges": ["edge_pieces(body, first, second)", "edges(body)"],
    "corners": ["corner_points(body, first, second, third)", "corners(body)"],
    "names": ["look(body, name, meant)", "itself(name)"],
    "making": ["make(document, setting)"],
    "lumps": ["lumps(body)", "state_at(body, point)"],
    "sections": ["section(body, wall)"],
    "edits": ["apply(document, edit)", "replayed(low, high, rows)", "without_last(rows, hand)"],
    "ways": [
        "way_to(document, goals)", "at_place(way, place)", "walls_at(document, setting)", "form_values(walls)",
        "root(way, worth)", "events(walls, way)", "stage_at(document, way, place)", "stages(document, way)",
        "sample(stage)"],
    "following": ["things_of(body, name, meant)", "cells_of(body, name, thing)", "follow(document, way, name, meant)"],
    "surveys": [
        "survey(document, way, name, meant)", "survives(document, way, name, meant)",
        "state_along(document, way, name, meant, place)"],
    "equations": ["settle(rows, many)", "worth_of(kept, at)"],
    "contact": ["contact(first, second, shifts, low, high)"],
    "papers": ["paper_for(walls, signs)", "there(walls, signs)", "judge(walls, signs, paper)"],
}

# The methods of classes, each in the class itself.
CLASSES = {
    "bodies": {"Body": [
        "__init__(self, low, high, planes, tools)", "holds(self, signs)", "beside(self, signs, plane)",
        "maker(self, below, above)", "side(self, below, above, plane)", "flats(self)", "solid_cells(self)"]},
    "documents": {"Document": [
        "__init__(self, low, high)", "names(self)", "setting(self)", "place(self, number)", "copied(self)"]},
    "modellers": {"Modeller": [
        "__init__(self, low, high)", "declare(self, hand, name, value, low, high)", "set_value(self, hand, name, value)",
        "insert_feature(self, hand, text, *, place=None)", "change(self, hand, number, text, *, becomes=())",
        "remove_feature(self, hand, number)", "move(self, hand, number, place)", "suppress(self, hand, number, on)",
        "keep(self, hand, text)", "undo(self, hand)", "parameters(self)", "edits(self)", "features(self)",
        "kept_names(self)", "body(self)", "look_up(self, name)"]},
    "assemblies": {"Assembly": [
        "__init__(self, low, high)", "put_in(self, name, body)", "part_names(self)",
        "flush(self, first, one, second, other, *, gap=(0, 1))", "meet(self, first, one, second, other)",
        "unmate(self, number)", "places(self)", "contact_of(self, first, second)"]},
}


class Interface(unittest.TestCase):

    def test_functions(self):
        for module, lines in INTERFACE.items():
            found = importlib.import_module("truepart." + module)
            for line in lines:
                name = line.partition("(")[0]
                function = getattr(found, name)
                self.assertEqual(name + str(inspect.signature(function)), line, module)
                self.assertEqual(function.__module__, "truepart." + module)

    def test_methods(self):
        for module, classes in CLASSES.items():
            found = importlib.import_module("truepart." + module)
            for name, lines in classes.items():
                own = vars(getattr(found, name))
                self.assertEqual(getattr(found, name).__module__, "truepart." + module)
                for line in lines:
                    method = own[line.partition("(")[0]]
                    self.assertEqual(method.__name__ + str(inspect.signature(method)), line)


if __name__ == "__main__":
    unittest.main()
