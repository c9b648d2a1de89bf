"""The layout of the package, where its interface is defined, and the plainest rules of form."""

import ast
import builtins
import importlib
import inspect
import os
import unittest

import cutscribe

FOLDER = os.path.dirname(os.path.abspath(cutscribe.__file__))
INTERFACE = {
    "errors": {"CutError": "(ValueError)"},
    "patterns": {"is_pattern": "(alphabet, value)", "matches": "(alphabet, pattern, text)"},
    "automata": {"automaton": "(alphabet, pattern)"},
    "lexers": {"Lexer": {"__init__": "(self, alphabet, modes)", "mode_names": "(self)", "rules": "(self, mode)",
                         "automaton": "(self, mode)", "is_flat": "(self)", "__len__": "(self)",
                         "__eq__": "(self, other)"}},
    "tokens": {"tokenize": "(lexer, text)", "scan": "(lexer, text)"},
    "streams": {"Stream": {"__init__": "(self, lexer)", "feed": "(self, text)", "finish": "(self)",
                           "pending": "(self)", "current_mode": "(self)", "stack": "(self)", "copy": "(self)"}},
    "configurations": {"successors": "(lexer, configuration, character)",
                       "configurations": "(lexer, *, most=400)", "path": "(lexer, text)"},
    "uses": {"shortest_use": "(lexer, name, *, most=400)", "never_used": "(lexer, name, value)"},
    "differences": {"pair_successors": "(one, other, pair, character)",
                    "pair_configurations": "(one, other, *, most=400)",
                    "shortest_difference": "(one, other, *, most=400)", "never_differ": "(one, other, value)"},
    "sources": {"shortest_source": "(lexer, words, *, most=400)",
                "source_successors": "(lexer, words, position, character)",
                "source_positions": "(lexer, words, *, most=400)", "never_source": "(lexer, words, value)"},
    "documents": {"Document": {"__init__": "(self, lexer, text='')", "text": "(self)", "tokens": "(self)",
                               "edit": "(self, start, stop, text)",
                               "substitute": "(self, first, last, words, *, most=400)", "__len__": "(self)",
                               "__eq__": "(self, other)"}},
    "avoidable": {"shortest_avoidable": "(lexer, *, most=400)", "avoidable_items": "(lexer, *, most=400)",
                  "never_avoidable": "(lexer, value)"},
    "lookahead": {"lookahead": "(lexer, *, most=400)", "lookahead_at_most": "(lexer, bound, value)"},
    "notation": {"format_pattern": "(pattern)", "format_lexer": "(lexer)", "parse_pattern": "(alphabet, text)",
                 "parse_lexer": "(text)"},
    "workspace": {"Workspace": {"__init__": "(self)", "define": "(self, name, lexer)", "remove": "(self, name)",
                                "create": "(self, document, lexer, text='')", "close": "(self, document)",
                                "undo": "(self)", "redo": "(self)", "edit": "(self, document, start, stop, text)",
                                "substitute": "(self, document, first, last, words, *, most=400)",
                                "lexers": "(self)", "documents": "(self)", "lexer_of": "(self, name)",
                                "document_of": "(self, name)", "uses": "(self, document)", "copy": "(self)"}},
}
BUILTINS = ("len range enumerate zip min max sum abs sorted reversed int str bool list tuple dict set isinstance ord "
            "repr any all divmod ValueError").split()


def files():
    return sorted(name for name in os.listdir(FOLDER) if name != "__pycache__")


def source(name):
    with open(os.path.join(FOLDER, name), encoding="utf-8") as file:
        return file.read()


class Package(unittest.TestCase):

    def test_it_stands_at_the_top_of_the_repository(self):
        self.assertEqual(os.path.dirname(FOLDER), os.path.dirname(os.path.dirname(os.path.abspath(__file__))))
        self.assertIn("__init__.py", files())

    def test_each_name_is_defined_in_its_file(self):
        for name, members in INTERFACE.items():
            module = importlib.import_module("cutscribe." + name)
            for member, signature in members.items():
                value = getattr(module, member)
                self.assertEqual(value.__module__, "cutscribe." + name)
                if inspect.isfunction(value):
                    self.assertEqual(str(inspect.signature(value)), signature)
                elif isinstance(signature, dict):
                    self.check_methods(value, signature)

    def check_methods(self, value, signatures):
        """Each method is defined in the class itself."""
        for name, signature in signatures.items():
            self.assertIn(name, vars(value))
            self.assertEqual(str(inspect.signature(vars(value)[name])), signature)

    def test_it_contains_only_small_files_of_plain_characters(self):
        for name in files():
            self.assertTrue(name.endswith(".py") and name == name.lower(), name)
            text = source(name)
            self.assertTrue(all(character == "\n" or " " <= character <= "~" for character in text), name)
            lines = text.splitlines()
            self.assertLessEqual(len(lines), 399, name)
            self.assertLessEqual(max(map(len, lines)), 120, name)

    def test_functions_are_small(self):
        for name in files():
            for node in ast.walk(ast.parse(source(name))):
                if isinstance(node, ast.FunctionDef):
                    self.assertLessEqual(node.end_lineno - node.lineno + 1, 40, node.name)

    def test_it_imports_from_itself_alone(self):
        for name in files():
            for node in ast.walk(ast.parse(source(name))):
                self.assertNotIsInstance(node, ast.Import)
                if isinstance(node, ast.ImportFrom):
                    self.assertTrue(node.module.startswith("cutscribe."), name)
                    self.assertEqual(node.level, 0, name)

    def test_it_uses_few_builtins_and_gives_none_of_them_another_meaning(self):
        for name in files():
            for node in ast.walk(ast.parse(source(name))):
                if isinstance(node, ast.Name) and node.id in vars(builtins):
                    self.assertIn(node.id, BUILTINS, name)
                    self.assertIsInstance(node.ctx, ast.Load, name)
                elif isinstance(node, (ast.FunctionDef, ast.ClassDef)):
                    self.assertFalse(node.name in vars(builtins), node.name)
                elif isinstance(node, ast.arg):
                    self.assertFalse(node.arg in vars(builtins), node.arg)

    def test_nothing_local_has_the_name_of_a_class_or_an_import_of_its_file(self):
        for name in files():
            tree = ast.parse(source(name))
            bound = [alias.name for node in tree.body if isinstance(node, ast.ImportFrom) for alias in node.names]
            bound += [node.name for node in tree.body if isinstance(node, ast.ClassDef)]
            for node in ast.walk(tree):
                if isinstance(node, ast.arg):
                    self.assertNotIn(node.arg, bound, name)
                elif isinstance(node, ast.Name) and not isinstance(node.ctx, ast.Load):
                    self.assertNotIn(node.id, bound, name)

    def test_it_contains_no_generators_and_no_percent_signs(self):
        for name in files():
            for node in ast.walk(ast.parse(source(name))):
                self.assertNotIsInstance(node, (ast.GeneratorExp, ast.Yield, ast.YieldFrom, ast.Global), name)
                if isinstance(node, ast.Constant) and isinstance(node.value, str):
                    self.assertNotIn("%", node.value, name)

    def test_no_name_is_a_method_and_an_attribute(self):
        methods, attributes = set(), set()
        for name in files():
            for node in ast.walk(ast.parse(source(name))):
                if isinstance(node, ast.ClassDef):
                    methods.update(part.name for part in node.body if isinstance(part, ast.FunctionDef))
                elif isinstance(node, ast.Attribute) and isinstance(node.ctx, ast.Store):
                    attributes.add(node.attr)
        self.assertEqual(methods & attributes, set())

    def test_no_two_files_import_from_each_other(self):
        imports = {}
        for name in files():
            found = [node.module for node in ast.parse(source(name)).body if isinstance(node, ast.ImportFrom)]
            imports["cutscribe." + name[:-len(".py")]] = found
        left = dict(imports)
        while left:
            free = [name for name, found in left.items() if not any(other in left for other in found)]
            self.assertNotEqual(free, [])
            for name in free:
                del left[name]


if __name__ == "__main__":
    unittest.main()
