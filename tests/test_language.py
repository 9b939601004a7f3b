"""Some of the rules of the language that the package is written in, as far as a short test can see them."""

import ast
import os
import re
import unittest

ROOT = os.path.dirname(os.path.dirname(os.path.abspath(__file__)))
PACKAGE = os.path.join(ROOT, "meettrees")
LIBRARY = ("heapq", "math", "itertools", "collections")
BUILTINS = set(
    "len range enumerate zip min max sum abs sorted reversed int str bool bytes list tuple dict set frozenset "
    "isinstance ord repr any all divmod super staticmethod classmethod property".split()
)
BARRED = re.compile(
    r"\b(type|typing|enum|Enum|Generic|Protocol|ABC|namedtuple|NamedTuple|TypedDict|abstractmethod|_wall|_WallAttr)\b"
)


def files():
    """The pairs of the name and the text of each file of the package."""
    for name in sorted(os.listdir(PACKAGE)):
        if name != "__pycache__":
            with open(os.path.join(PACKAGE, name), encoding="utf-8") as file:
                yield name, file.read()


def nodes(kind):
    """The pairs of a place and a node, for all nodes of a kind."""
    for name, text in files():
        for node in ast.walk(ast.parse(text)):
            if isinstance(node, kind):
                yield f"{name}:{node.lineno}", node


class LanguageTest(unittest.TestCase):
    def test_files_and_lines(self):
        for name, text in files():
            self.assertRegex(name, r"^[a-z_]+\.py$")
            lines = text.splitlines()
            self.assertLessEqual(len(lines), 399, name)
            for number, line in enumerate(lines, 1):
                self.assertLessEqual(len(line), 120, f"{name}:{number}")
                self.assertRegex(line, r"^[ -~]*$", f"{name}:{number}")

    def test_functions_are_short_and_told(self):
        for place, node in nodes((ast.FunctionDef, ast.ClassDef)):
            if isinstance(node, ast.FunctionDef):
                self.assertLessEqual(node.end_lineno - node.lineno + 1, 40, place)
            if not node.name.startswith("__"):
                self.assertTrue(ast.get_docstring(node), place)

    def test_imports(self):
        for place, node in nodes((ast.Import, ast.ImportFrom)):
            self.assertIsInstance(node, ast.ImportFrom, place)
            self.assertTrue(node.module.startswith("meettrees.") or node.module in LIBRARY, place)
            self.assertFalse([alias for alias in node.names if alias.asname or alias.name == "*"], place)

    def test_imports_are_used_and_have_no_circle(self):
        needs = {}
        for name, text in files():
            tree = ast.parse(text)
            used = {node.id for node in ast.walk(tree) if isinstance(node, ast.Name)}
            needs[name[:-3]] = set()
            for node in ast.walk(tree):
                if isinstance(node, ast.ImportFrom):
                    needs[name[:-3]].add(node.module.split(".")[-1])
                    self.assertEqual([alias.name for alias in node.names if alias.name not in used], [], name)
        while needs:
            free = [name for name, others in needs.items() if not others & set(needs)]
            self.assertTrue(free, needs)
            for name in free:
                del needs[name]

    def test_names_of_python(self):
        known = set(dir(__builtins__) if not isinstance(__builtins__, dict) else __builtins__)
        for place, node in nodes(ast.Name):
            if node.id in known:
                self.assertTrue(node.id in BUILTINS or node.id == "ValueError", f"{place} {node.id}")

    def test_what_is_not_used(self):
        for place, _ in nodes((ast.GeneratorExp, ast.Global, ast.AsyncFunctionDef, ast.JoinedStr)):
            self.fail(place)
        for place, node in nodes(ast.Constant):
            self.assertNotIsInstance(node.value, (float, complex), place)
            if isinstance(node.value, str):
                self.assertNotIn("%", node.value, place)

    def test_only_own_errors_are_caught_by_name(self):
        own = {node.name for place, node in nodes(ast.ClassDef) if place.startswith("errors.py")}
        for place, node in nodes(ast.Try):
            self.assertFalse(node.finalbody or node.orelse, place)
            for handler in node.handlers:
                self.assertIsInstance(handler.type, ast.Name, place)
                self.assertIn(handler.type.id, own, place)

    def test_what_is_raised_is_made_on_the_spot(self):
        for place, node in nodes(ast.Raise):
            self.assertIsInstance(node.exc, ast.Call, place)
            self.assertIsInstance(node.exc.func, ast.Name, place)

    def test_no_name_is_a_method_and_an_attribute(self):
        for place, node in nodes(ast.ClassDef):
            names = {method.name for method in node.body if isinstance(method, ast.FunctionDef)}
            stored = {
                part.attr for part in ast.walk(node) if isinstance(part, ast.Attribute) and isinstance(part.ctx, ast.Store)
            }
            self.assertFalse(names & stored, place)

    def test_properties_are_named_by_nothing_else(self):
        properties, others = set(), set()
        for _, node in nodes(ast.ClassDef):
            for method in node.body:
                if isinstance(method, ast.FunctionDef):
                    told = [mark.id for mark in method.decorator_list]
                    (properties if told == ["property"] else others).add(method.name)
        for _, node in nodes(ast.Attribute):
            if isinstance(node.ctx, ast.Store):
                others.add(node.attr)
        self.assertFalse(properties & others)

    def test_barred_words(self):
        for place, node in nodes(ast.Name):
            self.assertIsNone(BARRED.search(node.id), place)
        for place, node in nodes(ast.Attribute):
            self.assertIsNone(BARRED.search(node.attr), place)

    def test_names_of_a_file_are_not_names_of_variables(self):
        for name, text in files():
            tree = ast.parse(text)
            bound = {alias.name for node in tree.body if isinstance(node, ast.ImportFrom) for alias in node.names}
            bound |= {node.name for node in tree.body if isinstance(node, ast.ClassDef)}
            for node in ast.walk(tree):
                if isinstance(node, ast.arg):
                    self.assertNotIn(node.arg, bound, f"{name}:{node.lineno}")
                if isinstance(node, ast.Name) and isinstance(node.ctx, ast.Store):
                    self.assertNotIn(node.id, bound, f"{name}:{node.lineno}")


if __name__ == "__main__":
    unittest.main()
