"""The rules of the language that can be read off the files, and the interface's names."""

import ast
import inspect
import subprocess
import sys
import unittest
from importlib import import_module
from pathlib import Path

PACKAGE = Path(__file__).resolve().parent.parent / "fieldoffers"

INTERFACE = {
    "ways": {"is_way": 1, "all_ways": 0},
    "words": {"is_text": 1, "is_list": 1, "all_texts": 0, "small_lists": 0},
    "keys": {"is_key": 1, "is_row": 1, "all_keys": 0},
    "running": {"views_of": 4, "states_along": 3, "state_after": 3, "put_in": 3},
    "reaching": {"count_states": 2, "row_to": 3, "idle_keys": 3},
    "reading": {"first_bar": 4, "made": 4, "remains": 4, "bars": 4},
    "seeing": {
        "can_show": 4, "showers": 4, "first_row": 4, "states_behind": 4, "count_rows": 4,
    },
    "telling": {
        "same": 4, "telling_row": 4, "least_list": 3, "classes": 3, "telling_table": 3,
    },
    "spoken": {"is_within": 4, "telling_views": 4, "spoken_classes": 3},
    "finding": {"keys_needed": 3, "finding_plan": 3, "parting_row": 3, "groups": 4},
    "choosing": {"best_key": 4, "count_same": 5},
    "kinds": {"alike_groups": 3, "count_kinds": 3},
    "putting": {"row_for": 4, "never_put": 2, "saved": 2, "costs": 3},
    "meaning": {"typed": 4, "wrongs": 3, "first_wrong": 3},
    "desks": {"Desk": 3},
    "texts": {
        "format_way": 1, "format_row": 1, "format_list": 1,
        "parse_way": 1, "parse_row": 1, "parse_list": 1,
    },
}

# For each method of a class how many arguments it takes, itself included.
METHODS = {
    ("desks", "Desk"): {
        "__init__": 4, "press": 2, "state": 1, "view": 1, "pressed": 1, "taken_off": 1,
        "__len__": 1,
    },
}

LIBRARY = {"heapq", "math", "itertools", "collections"}


def files():
    return sorted(PACKAGE.glob("*.py"))


def imported(tree):
    """Give the modules that a file imports from; fail on any other import."""
    found = []
    for node in ast.walk(tree):
        if isinstance(node, ast.Import):
            raise AssertionError(f"line {node.lineno}: a module is imported as a name")
        if isinstance(node, ast.ImportFrom):
            if node.level != 0 or any(name.name == "*" for name in node.names):
                raise AssertionError(f"line {node.lineno}: no full names")
            found.append(node.module)
    return found


class Interface(unittest.TestCase):
    def test_functions_stand_in_their_files(self):
        for name, functions in INTERFACE.items():
            module = import_module(f"fieldoffers.{name}")
            for function, many in functions.items():
                with self.subTest(module=name, function=function):
                    value = getattr(module, function)
                    self.assertEqual(value.__module__, f"fieldoffers.{name}")
                    self.assertEqual(len(inspect.signature(value).parameters), many)


    def test_methods_stand_in_their_classes(self):
        for (name, owner), methods in METHODS.items():
            members = vars(getattr(import_module(f"fieldoffers.{name}"), owner))
            for method, many in methods.items():
                with self.subTest(owner=owner, method=method):
                    self.assertEqual(len(inspect.signature(members[method]).parameters), many)

    def test_modules_stand_alone(self):
        # A module may be imported first, whatever it imports itself.
        for name in INTERFACE:
            code = f"import fieldoffers.{name}"
            done = subprocess.run([sys.executable, "-c", code], cwd=PACKAGE.parent)
            with self.subTest(module=name):
                self.assertEqual(done.returncode, 0)


class Language(unittest.TestCase):
    def test_only_python_files(self):
        names = [path.name for path in PACKAGE.iterdir() if path.name != "__pycache__"]
        self.assertEqual(sorted(names), [path.name for path in files()])
        self.assertIn("__init__.py", names)

    def test_sizes_and_signs(self):
        for path in files():
            text = path.read_text(encoding="utf-8")
            lines = text.split("\n")
            with self.subTest(file=path.name):
                self.assertTrue(all(sign == "\n" or " " <= sign <= "~" for sign in text))
                self.assertLess(len(lines), 400)
                self.assertLessEqual(max(len(line) for line in lines), 120)

    def test_functions_of_at_most_40_lines(self):
        for path in files():
            for node in ast.walk(ast.parse(path.read_text(encoding="utf-8"))):
                if isinstance(node, ast.FunctionDef):
                    with self.subTest(file=path.name, function=node.name):
                        self.assertLessEqual(node.end_lineno - node.lineno + 1, 40)

    def test_imports(self):
        graph = {}
        for path in files():
            modules = imported(ast.parse(path.read_text(encoding="utf-8")))
            graph[f"fieldoffers.{path.stem}"] = [m for m in modules if m not in LIBRARY]
        done = []
        while len(done) < len(graph):
            ready = [m for m in graph if m not in done and all(n in done for n in graph[m])]
            self.assertTrue(ready, "files import from each other, or from outside")
            done.extend(ready)

    def test_no_floats_and_no_state_of_modules(self):
        for path in files():
            for node in ast.walk(ast.parse(path.read_text(encoding="utf-8"))):
                with self.subTest(file=path.name, line=getattr(node, "lineno", 0)):
                    self.assertNotIsInstance(node, (ast.AsyncFunctionDef, ast.Global, ast.Div))
                    self.assertFalse(
                        isinstance(node, ast.Constant) and isinstance(node.value, (float, complex)))


if __name__ == "__main__":
    unittest.main()
