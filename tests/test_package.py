"""The layout of the package, where its interface is defined, and the plainest rules of form."""

import ast
import importlib
import inspect
import os
import unittest

import cutscribe

FOLDER = os.path.dirname(os.path.abspath(cutscribe.__file__))
INTERFACE = {
    "errors": {"CutError": "(ValueError)"},
    "patterns": {"is_pattern": "(alphabet, value)", "matches": "(alphabet, pattern, text)"},
    "automata": {"automaton": "(alphabet, pattern)"},
}


def files():
    return sorted(name for name in os.listdir(FOLDER) if name != "__pycache__")


def source(name):
    with open(os.path.join(FOLDER, name), encoding="utf-8") as file:
        return file.read()


class Package(unittest.TestCase):

    def test_it_stands_at_the_top_of_the_repository(self):
        self.assertEqual(os.path.dirname(FOLDER), os.path.dirname(os.path.dirname(os.path.abspath(__file__))))
        self.assertIn("__init__.py", files())

    def test_each_name_is_defined_in_its_file(self):
        for name, members in INTERFACE.items():
            module = importlib.import_module("cutscribe." + name)
            for member, signature in members.items():
                value = getattr(module, member)
                self.assertEqual(value.__module__, "cutscribe." + name)
                if inspect.isfunction(value):
                    self.assertEqual(str(inspect.signature(value)), signature)

    def test_it_contains_only_small_files_of_plain_characters(self):
        for name in files():
            self.assertTrue(name.endswith(".py") and name == name.lower(), name)
            text = source(name)
            self.assertTrue(all(character == "\n" or " " <= character <= "~" for character in text), name)
            lines = text.splitlines()
            self.assertLessEqual(len(lines), 399, name)
            self.assertLessEqual(max(map(len, lines)), 120, name)

    def test_functions_are_small(self):
        for name in files():
            for node in ast.walk(ast.parse(source(name))):
                if isinstance(node, ast.FunctionDef):
                    self.assertLessEqual(node.end_lineno - node.lineno + 1, 40, node.name)

    def test_it_imports_from_itself_alone(self):
        for name in files():
            for node in ast.walk(ast.parse(source(name))):
                self.assertNotIsInstance(node, ast.Import)
                if isinstance(node, ast.ImportFrom):
                    self.assertTrue(node.module.startswith("cutscribe."), name)
                    self.assertEqual(node.level, 0, name)


if __name__ == "__main__":
    unittest.main()
