"""The files of the package keep to a small part of Python, the same on every version of it."""

import ast
import builtins
import re
import unittest
from pathlib import Path

PACKAGE = Path(__file__).resolve().parent.parent / "truepart"
LIBRARY = {"math": {"gcd", "lcm", "isqrt", "comb", "perm", "factorial"},
           "itertools": {"product", "combinations", "permutations"}}
BUILTINS = set(
    "len range enumerate zip min max sum abs sorted reversed int str bool list tuple dict set isinstance ord repr any"
    " all divmod ValueError KeyError IndexError LookupError ZeroDivisionError".split())
METHODS = set(
    "append clear copy count endswith extend find get index insert isalnum isalpha isdigit islower isspace isupper"
    " items join keys ljust lower lstrip partition pop remove replace reverse rfind rjust rpartition rsplit rstrip"
    " setdefault split splitlines startswith strip update upper values zfill bit_length add discard".split())
NODES = set(
    "Module Expr Constant ImportFrom alias FunctionDef ClassDef arguments arg Return Assign AugAssign Name Load Store"
    " Attribute Call Subscript Slice Tuple List Dict Compare BoolOp BinOp UnaryOp IfExp If For While Break Continue Pass"
    " Raise Try ExceptHandler ListComp DictComp comprehension JoinedStr FormattedValue Starred keyword And Or Not USub"
    " Add Sub Mult FloorDiv Mod Pow BitAnd BitOr BitXor LShift RShift Eq NotEq Lt LtE Gt GtE In NotIn Is IsNot".split())
WORDS = set(
    "type typing enum Enum IntEnum Flag Generic Protocol ABC namedtuple NamedTuple register mro elements open input law"
    " eval exec exit compile copyright credits license dir globals locals vars help id os sys quit super".split())


def trees():
    """The name and the tree of each file."""
    return [(path.stem, ast.parse(path.read_text())) for path in sorted(PACKAGE.rglob("*.py"))]


def bound_names(tree):
    """The names that are bound at module level, imports left out."""
    found = []
    for node in tree.body:
        if isinstance(node, (ast.FunctionDef, ast.ClassDef)):
            found.append(node.name)
        if isinstance(node, ast.Assign):
            found += [target.id for target in node.targets]
    return found


def imports(tree):
    """Pairs of a module and a name that is imported from it."""
    return [(node.module, part.name) for node in tree.body if isinstance(node, ast.ImportFrom) for part in node.names]


class Files(unittest.TestCase):

    def test_characters_and_sizes(self):
        for path in PACKAGE.rglob("*"):
            if "__pycache__" in path.parts:
                continue
            self.assertEqual(path.suffix, ".py", path)
            text = path.read_bytes().decode("ascii")
            lines = text.split("\n")
            self.assertLessEqual(len(lines) - 1, 399, path)
            self.assertLessEqual(max(map(len, lines)), 120, path)
            self.assertFalse([sign for sign in text if not (" " <= sign <= "~" or sign == "\n")], path)
            self.assertRegex(path.stem, "^[a-z_0-9]+$")

    def test_functions_are_short(self):
        for name, tree in trees():
            for node in ast.walk(tree):
                if isinstance(node, ast.FunctionDef):
                    self.assertLessEqual(node.end_lineno - node.lineno + 1, 40, (name, node.name))
                    self.assertIsNotNone(ast.get_docstring(node) or node.name == "__init__" or None, (name, node.name))


class Imports(unittest.TestCase):

    def test_each_names_the_file_that_defines(self):
        bound = {"truepart." + name: bound_names(tree) for name, tree in trees()}
        for name, tree in trees():
            for module, part in imports(tree):
                known = LIBRARY[module] if module in LIBRARY else bound[module]
                self.assertIn(part, known, (name, module))
            for node in ast.walk(tree):
                if isinstance(node, ast.alias):
                    self.assertIsNone(node.asname, name)

    def test_none_goes_in_a_circle(self):
        needs = {"truepart." + name: {m for m, _ in imports(tree) if m not in LIBRARY} for name, tree in trees()}
        while needs:
            free = [name for name in needs if not needs[name] & set(needs)]
            self.assertTrue(free, needs)
            for name in free:
                del needs[name]

    def test_each_is_used(self):
        for name, tree in trees():
            used = {node.id for node in ast.walk(tree) if isinstance(node, ast.Name)}
            for _, part in imports(tree):
                self.assertIn(part, used, name)


class Names(unittest.TestCase):

    def test_each_is_bound_once_at_module_level(self):
        for name, tree in trees():
            found = bound_names(tree) + [part for _, part in imports(tree)]
            self.assertEqual(len(found), len(set(found)), name)

    def test_none_has_another_meaning(self):
        for name, tree in trees():
            classes = {node.name for node in ast.walk(tree) if isinstance(node, ast.ClassDef)}
            barred = set(dir(builtins)) | classes | {part for _, part in imports(tree)}
            for node in ast.walk(tree):
                if isinstance(node, ast.arg):
                    self.assertNotIn(node.arg, barred | WORDS, name)
                if isinstance(node, ast.Name) and isinstance(node.ctx, ast.Store):
                    self.assertNotIn(node.id, barred | WORDS, name)
                if isinstance(node, ast.FunctionDef):
                    self.assertNotIn(node.name, set(dir(builtins)) | WORDS, name)

    def test_builtins(self):
        for name, tree in trees():
            for node in ast.walk(tree):
                if isinstance(node, ast.Name) and hasattr(builtins, node.id):
                    self.assertIn(node.id, BUILTINS, name)

    def test_methods(self):
        own = {node.name for _, tree in trees() for part in ast.walk(tree) if isinstance(part, ast.ClassDef)
               for node in part.body if isinstance(node, ast.FunctionDef)}
        for name, tree in trees():
            for node in ast.walk(tree):
                if isinstance(node, ast.Call) and isinstance(node.func, ast.Attribute):
                    self.assertIn(node.func.attr, METHODS | own, name)


class Sentences(unittest.TestCase):

    def test_kinds(self):
        for name, tree in trees():
            for node in ast.walk(tree):
                self.assertIn(node.__class__.__name__, NODES, (name, getattr(node, "lineno", 0)))

    def test_no_decorators_and_annotations(self):
        for name, tree in trees():
            for node in ast.walk(tree):
                if isinstance(node, (ast.FunctionDef, ast.ClassDef)):
                    self.assertEqual(node.decorator_list, [], name)
                if isinstance(node, ast.arg):
                    self.assertIsNone(node.annotation, name)

    def test_modules_only_define(self):
        for name, tree in trees():
            for node in tree.body:
                docstring = isinstance(node, ast.Expr) and isinstance(node.value, ast.Constant)
                plain = isinstance(node, ast.Assign) and isinstance(node.targets[0], ast.Name)
                if plain:
                    ast.literal_eval(node.value)
                kinds = (ast.ImportFrom, ast.FunctionDef, ast.ClassDef)
                self.assertTrue(docstring or plain or isinstance(node, kinds), (name, node.lineno))

    def test_constants(self):
        for name, tree in trees():
            for node in ast.walk(tree):
                if isinstance(node, ast.Constant):
                    self.assertNotIsInstance(node.value, (float, complex), name)
                    if isinstance(node.value, str):
                        self.assertNotIn(chr(37), node.value, name)
                        self.assertFalse(node.value.endswith(("._", ".__")), name)

    def test_words(self):
        for name, tree in trees():
            for node in ast.walk(tree):
                if isinstance(node, (ast.FunctionDef, ast.ClassDef, ast.Module)) and ast.get_docstring(node):
                    node.body = node.body[1:]
            for word in re.findall(r"\w+", ast.unparse(tree)):
                self.assertNotIn(word, WORDS, name)


if __name__ == "__main__":
    unittest.main()
