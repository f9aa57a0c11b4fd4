"""The interface as the document lists it, and the form of the package's files."""

import ast
import pathlib
import unittest

PACKAGE = pathlib.Path(__file__).resolve().parent.parent / "somenumber"

CLASSES = {
    "errors.py": {"SomeError": "ValueError", "NoValue": "SomeError", "NotPlain": "SomeError", "NoNote": "SomeError"},
}
FUNCTIONS = {
    "sums.py": {
        "made": ["number", "pairs"],
        "added": ["one", "other"],
        "times": ["number", "one"],
        "without": ["one", "name"],
        "put_in": ["one", "name", "other"],
        "share": ["one", "name"],
        "value": ["one", "values"],
    },
    "statements.py": {
        "is_plain": ["statement"],
        "is_true": ["statement", "values"],
        "unknowns": ["statement"],
        "put": ["statement", "name", "other"],
    },
    "taking.py": {"straight": ["statement"], "taken": ["name", "statement"], "left": ["statement"]},
    "telling.py": {"holds": ["statement", "values"], "told": ["name", "statement", "values"]},
    "notes.py": {"written": ["statement"], "read": ["text"]},
}
NAMES = {"notes.py": {"MOST_WITHIN": 40}}
ALLOWED_LIBRARY = ("heapq", "math", "itertools", "collections", "__future__")


def files():
    return sorted(PACKAGE.rglob("*.py"))


def tree(path):
    return ast.parse(path.read_text(encoding="ascii"))


class Interface(unittest.TestCase):
    def test_classes_are_defined_in_their_file(self):
        for file, classes in CLASSES.items():
            body = tree(PACKAGE / file).body
            found = {node.name: [base.id for base in node.bases] for node in body if isinstance(node, ast.ClassDef)}
            for name, base in classes.items():
                self.assertEqual(found.get(name), [base], name)

    def test_functions_are_defined_in_their_file(self):
        for file, functions in FUNCTIONS.items():
            body = tree(PACKAGE / file).body
            found = {node.name: node.args for node in body if isinstance(node, ast.FunctionDef)}
            for name, parameters in functions.items():
                self.assertIn(name, found)
                self.assertEqual([one.arg for one in found[name].args], parameters, name)

    def test_names_are_assigned_in_their_file(self):
        for file, names in NAMES.items():
            body = tree(PACKAGE / file).body
            found = {node.targets[0].id: node.value.value for node in body
                     if isinstance(node, ast.Assign) and isinstance(node.value, ast.Constant)}
            for name, number in names.items():
                self.assertEqual(found.get(name), number)


class Form(unittest.TestCase):
    def test_the_folder_holds_nothing_but_files_of_the_package(self):
        for path in PACKAGE.rglob("*"):
            if "__pycache__" not in path.parts:
                self.assertTrue(path.is_dir() or path.suffix == ".py", path)

    def test_sizes_and_characters(self):
        for path in files():
            text = path.read_text(encoding="ascii")
            lines = text.split("\n")
            self.assertLessEqual(len(lines), 399, path)
            for line in lines:
                self.assertLessEqual(len(line), 120, path)
                self.assertTrue(line == "" or line.isprintable(), path)
            for node in ast.walk(ast.parse(text)):
                if isinstance(node, ast.FunctionDef):
                    self.assertLessEqual(node.end_lineno - node.lineno + 1, 40, node.name)

    def test_imports(self):
        for path in files():
            for node in ast.walk(tree(path)):
                self.assertNotIsInstance(node, ast.Import, path)
                if isinstance(node, ast.ImportFrom):
                    self.assertEqual(node.level, 0, path)
                    self.assertIn(node.module.split(".")[0], ("somenumber", *ALLOWED_LIBRARY), path)

    def test_no_state_at_module_level(self):
        allowed = (ast.Expr, ast.ImportFrom, ast.FunctionDef, ast.ClassDef, ast.Assign)
        for path in files():
            for node in tree(path).body:
                self.assertIsInstance(node, allowed, path)
                if isinstance(node, ast.Expr):
                    self.assertIsInstance(node.value, ast.Constant, path)
                if isinstance(node, ast.Assign):
                    calls = [part for part in ast.walk(node.value) if isinstance(part, ast.Call)]
                    self.assertEqual(calls, [], path)


if __name__ == "__main__":
    unittest.main()
