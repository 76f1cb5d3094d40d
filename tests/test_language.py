"""Rules of the language that a look at the files can tell: L1, L2, L7, L8, L10, L12, L14 to L16, L25."""

import ast
import builtins
import os
import unittest

PACKAGE = os.path.join(os.path.dirname(os.path.dirname(os.path.abspath(__file__))), "skidblame")
BUILTINS = (
    "len range enumerate zip min max sum abs sorted reversed int str bool list tuple dict set isinstance ord repr any "
    "all divmod getattr hasattr setattr iter next map property staticmethod classmethod super type print "
    "Exception ValueError TypeError KeyError IndexError LookupError ZeroDivisionError StopIteration NotImplemented"
).split()
LIBRARY = ("heapq", "math", "itertools", "collections", "__future__")
METHODS = (
    "append clear copy count endswith extend find get index insert isalnum isalpha isdigit islower isspace isupper items "
    "join keys ljust lower lstrip partition pop remove replace reverse rfind rjust rpartition rsplit rstrip setdefault "
    "split splitlines startswith strip update upper values zfill bit_length"
).split()
# A doctest leaves its last answer among the builtins as _, which L12 lets be assigned.
ALL_BUILTINS = [word for word in dir(builtins) if word != "_"]
BARRED = (ast.AsyncFunctionDef, ast.Await, ast.Div, ast.Import)
# Source has an __eq__, so that these take a list instead of a generator expression (L7).
TAKE_LISTS = ("any", "all", "min", "max", "sum", "sorted")


def own_files():
    return sorted(name for name in os.listdir(PACKAGE) if name != "__pycache__")


def texts():
    """Each file of the package with its text."""
    for name in own_files():
        with open(os.path.join(PACKAGE, name), encoding="utf-8", newline="") as file:
            yield name, file.read()


def bound_names(tree):
    """Each name that a file gives to something."""
    for node in ast.walk(tree):
        if isinstance(node, (ast.FunctionDef, ast.ClassDef)):
            yield node.name
        elif isinstance(node, ast.arg):
            yield node.arg
        elif isinstance(node, ast.Name) and not isinstance(node.ctx, ast.Load):
            yield node.id
        elif isinstance(node, ast.alias):
            yield node.asname or node.name


class Language(unittest.TestCase):
    def test_files(self):
        for name in own_files():
            self.assertRegex(name, r"^[a-z0-9_]+\.py$")

    def test_lines_and_characters(self):
        for name, text in texts():
            rows = text.split("\n")
            self.assertLessEqual(len(rows), 400, name)
            self.assertLessEqual(max(map(len, rows)), 120, name)
            self.assertEqual([], [sign for sign in text if sign != "\n" and not " " <= sign <= "~"], name)

    def test_functions_are_short(self):
        for name, text in texts():
            for node in ast.walk(ast.parse(text)):
                if isinstance(node, ast.FunctionDef):
                    self.assertLessEqual(node.end_lineno - node.lineno + 1, 40, (name, node.name))

    def test_imports(self):
        for name, text in texts():
            for node in ast.walk(ast.parse(text)):
                if isinstance(node, ast.ImportFrom):
                    self.assertEqual(0, node.level, name)
                    self.assertIn(node.module.split(".")[0], ("skidblame", *LIBRARY), name)

    def test_no_barred_parts(self):
        for name, text in texts():
            for node in ast.walk(ast.parse(text)):
                self.assertNotIsInstance(node, BARRED, (name, getattr(node, "lineno", 0)))
                self.assertFalse(isinstance(node, ast.Constant) and isinstance(node.value, (float, complex)), name)

    def test_no_generator_expression_where_a_list_is_asked(self):
        for name, text in texts():
            for node in ast.walk(ast.parse(text)):
                if isinstance(node, ast.Call) and isinstance(node.func, ast.Name) and node.func.id in TAKE_LISTS:
                    self.assertFalse(any(isinstance(arg, ast.GeneratorExp) for arg in node.args), (name, node.lineno))

    def test_no_name_is_a_builtin(self):
        for name, text in texts():
            taken = [bound for bound in bound_names(ast.parse(text)) if bound in ALL_BUILTINS and not bound.startswith("__")]
            self.assertEqual([], taken, name)

    def test_no_name_is_an_import_or_a_class_of_its_file(self):
        for name, text in texts():
            taken, local = [], []
            for node in ast.walk(ast.parse(text)):
                if isinstance(node, ast.ImportFrom):
                    taken.extend(alias.asname or alias.name for alias in node.names)
                elif isinstance(node, ast.ClassDef):
                    taken.append(node.name)
                elif isinstance(node, (ast.FunctionDef, ast.arg, ast.Name)) and not isinstance(getattr(node, "ctx", 0), ast.Load):
                    local.append(getattr(node, "name", None) or getattr(node, "arg", None) or node.id)
            self.assertEqual([], [word for word in taken if word in local], name)
            self.assertEqual(len(taken), len(set(taken)), name)

    def test_methods(self):
        own = [node.name for _, text in texts() for node in ast.walk(ast.parse(text)) if isinstance(node, ast.FunctionDef)]
        for name, text in texts():
            for node in ast.walk(ast.parse(text)):
                if isinstance(node, ast.Call) and isinstance(node.func, ast.Attribute):
                    self.assertIn(node.func.attr, METHODS + own, (name, node.lineno))

    def test_only_builtins_of_the_language(self):
        for name, text in texts():
            read = [node.id for node in ast.walk(ast.parse(text)) if isinstance(node, ast.Name)]
            self.assertEqual([], [word for word in read if word in ALL_BUILTINS and word not in BUILTINS], name)


if __name__ == "__main__":
    unittest.main()
