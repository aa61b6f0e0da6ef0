"""The form of the package: its layout, what it imports, and its interface (point 1)."""

import ast
import unittest
from pathlib import Path

PACKAGE = Path(__file__).resolve().parent.parent / "everyweave"

# Each function and class that the document lists, with its arguments, or its methods with theirs.
FUNCTIONS = {
    "programs.py": {"check_program": ["program"]},
    "runs.py": {
        "touching": ["run", "i", "j"],
        "clocks": ["run"],
        "before": ["run", "i", "j"],
        "normal_form": ["run"],
        "alike": ["first", "second"],
        "all_runs": ["program", "memory"],
    },
    "explorer.py": {
        "initials": ["run"],
        "turnings": ["run"],
        "turned": ["run", "i", "agent"],
        "explore": ["program", "memory"],
        "is_paper": ["program", "memory", "schedules"],
    },
    "things.py": {
        "things": ["program", "memory"],
        "ends": ["program", "memory"],
        "shortest": ["program", "memory", "thing"],
    },
    "graphs.py": {
        "empty_graph": ["program"],
        "growths": ["program", "graph"],
        "is_execution": ["program", "graph"],
        "comes_before": ["program", "graph", "first", "second"],
        "graphs": ["program"],
        "graph_ends": ["program"],
        "graph_races": ["program", "graph"],
        "graph_things": ["program"],
    },
    "texts.py": {
        "format_program": ["program"],
        "parse_program": ["text"],
    },
}
CLASSES = {
    "machine.py": {
        "Machine": {
            "__init__": ["self", "program", "memory"],
            "able": ["self"],
            "step": ["self", "agent"],
            "label": ["self", "agent"],
            "twin": ["self"],
            "state": ["self"],
            "end": ["self"],
        },
    },
    "runs.py": {
        "Run": {
            "__init__": ["self", "program", "memory", "schedule"],
            "whole": ["self"],
            "end": ["self"],
        },
    },
    "desk.py": {
        "Desk": {
            "do": ["self", "line"],
        },
    },
    "errors.py": {
        name: {} for name in ("EveryweaveError", "BadProgram", "BadSchedule", "BadArgument", "BadText", "BadGraph",
                              "TooLarge", "BadLine")
    },
}
LIBRARY = ("heapq", "math", "itertools", "collections")
FORBIDDEN = ("open", "input", "print", "eval", "exec", "compile", "globals", "vars", "id", "hash")


def trees():
    return {path.name: ast.parse(path.read_text()) for path in sorted(PACKAGE.glob("*.py"))}


def arguments_of(function):
    return [argument.arg for argument in function.args.args]


class Layout(unittest.TestCase):
    def test_the_folder_contains_python_files_alone(self):
        names = [path.name for path in PACKAGE.iterdir() if path.name != "__pycache__"]
        self.assertIn("__init__.py", names)
        self.assertEqual([name for name in names if not name.endswith(".py")], [])

    def test_sizes_and_characters(self):
        for path in PACKAGE.glob("*.py"):
            text = path.read_text()
            lines = text.splitlines()
            self.assertLessEqual(len(lines), 399, path.name)
            self.assertLessEqual(max(map(len, lines)), 120, path.name)
            self.assertTrue(all(sign == "\n" or " " <= sign <= "~" for sign in text), path.name)

    def test_functions_are_short(self):
        for name, tree in trees().items():
            for node in ast.walk(tree):
                if isinstance(node, ast.FunctionDef):
                    self.assertLessEqual(node.end_lineno - node.lineno + 1, 40, f"{name} {node.name}")


class Surroundings(unittest.TestCase):
    def test_imports_are_of_the_package(self):
        for name, tree in trees().items():
            for node in ast.walk(tree):
                self.assertNotIsInstance(node, ast.Import, name)
                if isinstance(node, ast.ImportFrom):
                    self.assertEqual(node.level, 0, name)
                    self.assertTrue(node.module.startswith("everyweave.") or node.module in LIBRARY, node.module)

    def test_nothing_is_read_or_written(self):
        for name, tree in trees().items():
            used = [node.id for node in ast.walk(tree) if isinstance(node, ast.Name)]
            self.assertEqual([word for word in used if word in FORBIDDEN], [], name)


class Interface(unittest.TestCase):
    def test_functions_are_defined_where_they_are_listed(self):
        for name, listed in FUNCTIONS.items():
            found = {node.name: arguments_of(node) for node in trees()[name].body if isinstance(node, ast.FunctionDef)}
            for function, arguments in listed.items():
                self.assertEqual(found.get(function), arguments)

    def test_classes_define_their_methods_themselves(self):
        for name, listed in CLASSES.items():
            found = {node.name: node for node in trees()[name].body if isinstance(node, ast.ClassDef)}
            for word, methods in listed.items():
                self.assertIn(word, found)
                body = [node for node in found[word].body if isinstance(node, ast.FunctionDef)]
                defined = {node.name: arguments_of(node) for node in body}
                for method, arguments in methods.items():
                    self.assertEqual(defined.get(method), arguments)


if __name__ == "__main__":
    unittest.main()
