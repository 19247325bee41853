"""The interface's names and arguments, and the rules of the language that are easily counted."""

import ast
import builtins
import unittest
from pathlib import Path

FOLDER = Path(__file__).resolve().parent.parent / "treetally"

INTERFACE = {
    "errors.py": {
        "NetError": None, "BadNet": None, "BadTie": None, "SelfTie": None, "BadHanging": None,
        "BadNumber": None, "TooMany": None,
    },
    "nets.py": {
        "need_net": ["many", "ties"],
        "parts_of": ["many", "ties"],
        "hangs": ["many", "ties"],
        "net_without": ["many", "ties", "tie"],
        "net_together": ["many", "ties", "tie"],
    },
    "worths.py": {"worth_of": ["rows"]},
    "tallies.py": {"table_of": ["many", "ties"], "tally": ["many", "ties"]},
    "hangings.py": {
        "is_hanging": ["many", "ties", "some"],
        "all_hangings": ["many", "ties", "most"],
    },
    "numbers.py": {
        "hanging_of": ["many", "ties", "number"],
        "number_of": ["many", "ties", "some"],
    },
    "shares.py": {"standing": ["many", "ties"]},
    "ways.py": {"exchanges": ["many", "ties", "one", "other"]},
}

# Of the names that the language lets in from outside, those that the package takes.
LIBRARY = {"itertools": {"combinations"}}

ALLOWED_BUILTINS = {
    "len", "range", "enumerate", "zip", "min", "max", "sum", "abs", "sorted", "reversed", "int",
    "str", "bool", "list", "tuple", "dict", "set", "isinstance", "ord", "repr", "any", "all",
    "divmod", "type", "ValueError", "TypeError", "KeyError", "IndexError",
}


def files():
    return sorted(path for path in FOLDER.rglob("*") if "__pycache__" not in path.parts)


def trees():
    for path in files():
        if path.suffix == ".py":
            yield path, ast.parse(path.read_text(encoding="utf-8"))


def defined_in(path):
    tree = ast.parse(path.read_text(encoding="utf-8"))
    return {node.name for node in tree.body if isinstance(node, (ast.ClassDef, ast.FunctionDef))}


class InterfaceTest(unittest.TestCase):
    def test_each_name_is_defined_in_its_file(self):
        for name, listed in INTERFACE.items():
            defined = {}
            for node in ast.parse((FOLDER / name).read_text(encoding="utf-8")).body:
                if isinstance(node, ast.ClassDef):
                    defined[node.name] = None
                elif isinstance(node, ast.FunctionDef):
                    plain = not node.args.defaults and not node.args.kwonlyargs
                    self.assertTrue(plain and not node.args.posonlyargs, node.name)
                    defined[node.name] = [argument.arg for argument in node.args.args]
            for word, arguments in listed.items():
                self.assertIn(word, defined)
                self.assertEqual(defined[word], arguments, word)


class LanguageTest(unittest.TestCase):
    def test_the_folder_holds_python_files_alone(self):
        self.assertIn(FOLDER / "__init__.py", files())
        for path in files():
            self.assertTrue(path.is_file() and path.suffix == ".py", path)

    def test_sizes_and_signs(self):
        for path in files():
            text = path.read_text(encoding="utf-8")
            lines = text.splitlines()
            self.assertLessEqual(len(lines), 399, path)
            self.assertLessEqual(max(map(len, lines)), 120, path)
            self.assertTrue(all(" " <= sign <= "~" or sign == "\n" for sign in text), path)

    def test_functions_are_short(self):
        for path, tree in trees():
            for node in ast.walk(tree):
                if isinstance(node, ast.FunctionDef):
                    self.assertLessEqual(node.end_lineno - node.lineno + 1, 40, node.name)
                    self.assertEqual(node.decorator_list, [], node.name)

    def test_imports_name_what_the_package_defines(self):
        for path, tree in trees():
            for node in ast.walk(tree):
                self.assertNotIsInstance(node, ast.Import, path)
                if isinstance(node, ast.ImportFrom):
                    self.assertEqual(node.level, 0, path)
                    self.assertIn(node, tree.body, path)
                    self.assertTrue(all(alias.asname is None for alias in node.names), path)
                    words = {alias.name for alias in node.names}
                    if not words <= LIBRARY.get(node.module, set()):
                        self.assertTrue(node.module.startswith("treetally."), path)
                        name = node.module.removeprefix("treetally.") + ".py"
                        self.assertLessEqual(words, defined_in(FOLDER / name), path)

    def test_no_two_files_import_from_each_other(self):
        imported = {}
        for path, tree in trees():
            froms = [node.module for node in tree.body if isinstance(node, ast.ImportFrom)]
            imported["treetally." + path.stem] = froms
        while imported:
            ready = [name for name in imported if not any(other in imported for other in imported[name])]
            self.assertNotEqual(ready, [], imported)
            imported = {name: imported[name] for name in imported if name not in ready}

    def test_builtins_are_those_that_the_language_has(self):
        for path, tree in trees():
            for node in ast.walk(tree):
                if isinstance(node, ast.Name) and hasattr(builtins, node.id):
                    self.assertIsInstance(node.ctx, ast.Load, path)
                    self.assertIn(node.id, ALLOWED_BUILTINS, path)
                elif isinstance(node, (ast.arg, ast.FunctionDef, ast.ClassDef)):
                    name = node.arg if isinstance(node, ast.arg) else node.name
                    self.assertFalse(hasattr(builtins, name), path)

    def test_nothing_but_definitions_and_plain_names_at_module_level(self):
        for path, tree in trees():
            for node in tree.body:
                if isinstance(node, ast.Assign):
                    ast.literal_eval(node.value)
                elif isinstance(node, ast.Expr):
                    self.assertIsInstance(node.value, ast.Constant, path)
                else:
                    kinds = (ast.FunctionDef, ast.ClassDef, ast.ImportFrom)
                    self.assertIsInstance(node, kinds, path)

    def test_no_floats_and_no_division_by_a_slash(self):
        for path, tree in trees():
            for node in ast.walk(tree):
                self.assertNotIsInstance(node, ast.Div, path)
                if isinstance(node, ast.Constant):
                    self.assertNotIsInstance(node.value, (float, complex), path)
