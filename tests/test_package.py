import ast
import builtins
import pathlib
import unittest

import handrack

PACKAGE = pathlib.Path(handrack.__file__).resolve().parent
# Names of Python's own by which no clock, chance or file can be reached.
HARMLESS = {
    "len", "range", "enumerate", "zip", "min", "max", "sum", "abs", "sorted", "reversed", "int", "str",
    "bool", "list", "tuple", "dict", "set", "isinstance", "any", "all", "ValueError",
}


def parsed_files():
    return {path.name: ast.parse(path.read_text("utf-8")) for path in sorted(PACKAGE.glob("*.py"))}


class NoClockNoChanceNoFiles(unittest.TestCase):
    def test_the_modules_of_the_document_are_there(self):
        wanted = {"__init__.py", "errors.py", "rack.py", "day.py", "distance.py"}
        self.assertLessEqual(wanted, set(parsed_files()))

    def test_only_the_own_modules_are_drawn_in(self):
        for name, tree in parsed_files().items():
            for node in ast.walk(tree):
                with self.subTest(name):
                    self.assertNotIsInstance(node, ast.Import)
                    if isinstance(node, ast.ImportFrom):
                        self.assertEqual(node.level, 0)
                        self.assertEqual(node.module.split(".")[0], "handrack")

    def test_only_harmless_names_of_pythons_own_are_used(self):
        for name, tree in parsed_files().items():
            names = {node.id for node in ast.walk(tree) if isinstance(node, ast.Name)}
            with self.subTest(name):
                self.assertEqual((names & set(dir(builtins))) - HARMLESS, set())


if __name__ == "__main__":
    unittest.main()
