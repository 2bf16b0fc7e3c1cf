"""The names and arguments of the interface, and the plain limits on the files of the package."""

import ast
import builtins
import importlib
import inspect
import os
import unittest

FOLDER = os.path.join(os.path.dirname(os.path.abspath(__file__)), os.pardir, "seenposts")

FUNCTIONS = {
    "places": {"is_seen": ["place"], "between": ["place"], "first_post": ["place"],
               "remainders": ["place", "divisor"]},
    "shows": {"shows": ["picture", "shift"], "is_possible": ["picture"], "barring": ["picture"],
              "classes": ["picture", "prime"], "judge_barring": ["picture", "prime", "told"],
              "find_shift": ["picture"]},
    "forced": {"status": ["picture", "place"], "forced_by": ["picture", "place"],
               "both_ways": ["picture", "place"], "forced_in": ["picture", "low", "high"],
               "follows": ["one", "other"], "alike": ["one", "other"], "opposed": ["one", "other"],
               "whole": ["picture"]},
    "thick": {"thickness": ["picture", "limit"], "class_count": ["places", "prime"],
              "is_thicker": ["one", "other", "limit"]},
    "counts": {"count_seen": ["low", "high"], "count_shown": ["picture", "low", "high"],
               "shown_in": ["picture", "low", "high"], "first_shown": ["picture", "most"]},
    "boxes": {"most_seen": ["sides"], "seen_lot": ["sides"], "key_list": ["sides"],
              "judge_keys": ["sides", "told", "many"], "number_of_sets": ["sides"]},
    "eyes": {"for_eyes": ["size", "entries"], "seen_by": ["eyes", "place"],
             "in_sight": ["eyes", "low", "high"], "meeting": ["size", "eyes"],
             "barring_eyes": ["size", "eyes"]},
    "back": {"fitting": ["shifts", "looks"], "best_look": ["shifts", "places"],
             "parting": ["one", "other", "low", "high"], "looks_needed": ["shifts", "places"],
             "look_plan": ["shifts", "places"], "judge_plan": ["shifts", "told"]},
    "texts": {"show_place": ["place"], "show_picture": ["picture"], "show_line": ["line"]},
    "readings": {"read_place": ["text"], "read_picture": ["text"], "read_line": ["text"]},
}

# Each class with the arguments of its constructor, its methods with theirs, and its properties.
CLASSES = {
    "pictures": {"Picture": (
        ["size", "seen", "hidden"],
        {"shifted": ["shift"], "mapped": ["rows"], "least": [], "__or__": ["other"],
         "__sub__": ["other"], "__contains__": ["x"], "__len__": [], "__eq__": ["other"]},
        ["size", "seen", "hidden"])},
    "lines": {"Line": (
        ["start", "step"],
        {"post": ["t"], "seen_at": ["t"], "dark": [], "total": ["low", "high"], "at": ["k"],
         "share": [], "longest": [], "__eq__": ["other"]},
        ["start", "step", "number"])},
    "windows": {
        "Window": (
            ["size"],
            {"__call__": ["place", "word"], "word_at": ["place"], "add_all": ["looks"],
             "undo": [], "__len__": [], "__eq__": ["other"]},
            ["picture", "looks"]),
        "PlacedWindow": (
            ["shift"],
            {"__call__": ["place", "word"], "add_all": ["looks"], "__eq__": ["other"]},
            ["shift"])},
    "errors": {name: (["value"], {}, []) for name in [
        "PostError", "InvalidSize", "InvalidPlace", "DoublePlace", "InvalidMatrix", "InvalidStep",
        "InvalidNumber", "InvalidWord", "Conflict", "Barred", "Taken", "Wrong", "NothingToUndo",
        "Unreadable"]},
}


def arguments(call):
    return list(inspect.signature(call).parameters)


def sources():
    """The names and texts of the files of the package."""
    found = []
    for name in sorted(os.listdir(FOLDER)):
        if name != "__pycache__":
            with open(os.path.join(FOLDER, name), encoding="utf-8") as file:
                found.append((name, file.read()))
    return found


class Interface(unittest.TestCase):
    def test_functions(self):
        for file, table in FUNCTIONS.items():
            module = importlib.import_module("seenposts." + file)
            for name, expected in table.items():
                call = getattr(module, name)
                self.assertEqual(arguments(call), expected, name)
                self.assertEqual(call.__module__, "seenposts." + file, name)

    def test_classes(self):
        for file, table in CLASSES.items():
            module = importlib.import_module("seenposts." + file)
            for name, (expected, methods, properties) in table.items():
                kind = getattr(module, name)
                self.assertEqual(arguments(kind), expected, name)
                self.assertEqual(kind.__module__, "seenposts." + file, name)
                for method, taken in methods.items():
                    self.assertEqual(arguments(vars(kind)[method])[1:], taken, method)
                for word in properties:
                    self.assertIsInstance(vars(kind)[word], property, word)


class Files(unittest.TestCase):
    def test_only_plain_python_files(self):
        for name, text in sources():
            self.assertRegex(name, r"^[a-z_][a-z0-9_]*\.py$")
            self.assertTrue(all(sign == "\n" or " " <= sign <= "~" for sign in text), name)

    def test_sizes(self):
        for name, text in sources():
            lines = text.splitlines()
            self.assertLessEqual(len(lines), 399, name)
            self.assertLessEqual(max([0] + [len(line) for line in lines]), 120, name)
            for node in ast.walk(ast.parse(text)):
                if isinstance(node, ast.FunctionDef):
                    self.assertLessEqual(node.end_lineno - node.lineno + 1, 40, node.name)

    def test_imports_come_from_the_package_and_the_allowed_names(self):
        for name, text in sources():
            for node in ast.walk(ast.parse(text)):
                self.assertNotIsInstance(node, ast.Import, name)
                if isinstance(node, ast.ImportFrom):
                    allowed = node.module == "math" or node.module.startswith("seenposts.")
                    self.assertTrue(allowed and node.level == 0, name)

    def test_names_have_one_meaning(self):
        for name, text in sources():
            tree = ast.parse(text)
            taken = set(dir(builtins)) - {"_"}
            for node in ast.walk(tree):
                if isinstance(node, ast.ImportFrom):
                    taken.update([part.name for part in node.names])
                if isinstance(node, ast.ClassDef):
                    taken.add(node.name)
            for node in ast.walk(tree):
                if isinstance(node, ast.Name) and isinstance(node.ctx, ast.Store):
                    self.assertNotIn(node.id, taken, (name, node.lineno))
                if isinstance(node, ast.arg):
                    self.assertNotIn(node.arg, taken, (name, node.lineno))

    def test_nothing_that_the_language_leaves_out(self):
        barred = (ast.GeneratorExp, ast.Try, ast.Global, ast.AsyncFunctionDef, ast.Await, ast.Div)
        for name, text in sources():
            for node in ast.walk(ast.parse(text)):
                self.assertNotIsInstance(node, barred, (name, getattr(node, "lineno", None)))
                if isinstance(node, ast.Constant):
                    self.assertNotIsInstance(node.value, float, (name, node.lineno))
                    self.assertFalse(isinstance(node.value, str) and "%" in node.value, name)


if __name__ == "__main__":
    unittest.main()
