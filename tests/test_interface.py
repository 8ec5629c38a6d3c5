"""The interface and the form of the code: where each name is defined, and how its parameters are called."""

import ast
import importlib
import inspect
import unittest
from pathlib import Path

from middlewebs.graphs import Graph

PACKAGE = Path(__file__).resolve().parent.parent / "middlewebs"

FUNCTIONS = {
    "distances": {
        "distance": ["graph", "a", "b"],
        "interval": ["graph", "a", "b"],
        "shortest_path": ["graph", "a", "b"],
    },
    "convex": {
        "is_convex": ["graph", "subset"],
        "convex_hull": ["graph", "subset"],
        "gate": ["graph", "subset", "vertex"],
        "common": ["graph", "subsets"],
        "apart": ["graph", "subsets"],
    },
    "graphs": {"Graph": ["size", "edges"]},
}
GRAPH_METHODS = {"neighbors": ["vertex"], "path": ["number"], "cycle": ["number"], "cube": ["number"]}


class Interface(unittest.TestCase):

    def test_names_and_parameters(self):
        for file, functions in FUNCTIONS.items():
            module = importlib.import_module(f"middlewebs.{file}")
            for name, parameters in functions.items():
                value = getattr(module, name)
                self.assertEqual(value.__module__, f"middlewebs.{file}")
                self.assertEqual(list(inspect.signature(value).parameters), parameters)

    def test_methods_stand_in_the_class_itself(self):
        graph = Graph.path(2)
        for name, parameters in GRAPH_METHODS.items():
            self.assertIn(name, vars(Graph))
            self.assertEqual(list(inspect.signature(getattr(graph, name)).parameters), parameters)
        for name in ("__init__", "__len__", "__iter__", "__contains__", "__eq__", "__mul__"):
            self.assertIn(name, vars(Graph))

    def test_attributes_are_set_on_each_object(self):
        for graph in (Graph(1, []), Graph.cube(3), Graph.path(2) * Graph.path(2)):
            self.assertIn("size", vars(graph))
            self.assertIn("edges", vars(graph))


class Form(unittest.TestCase):

    def files(self):
        return [path for path in sorted(PACKAGE.rglob("*")) if "__pycache__" not in path.parts]

    def test_the_folder_has_nothing_but_plain_files(self):
        self.assertIn(PACKAGE / "__init__.py", self.files())
        for path in self.files():
            self.assertRegex(str(path.relative_to(PACKAGE)), r"\A[a-z0-9_]+\.py\Z")

    def test_sizes_and_characters(self):
        for path in self.files():
            text = path.read_bytes().decode("ascii")
            self.assertRegex(text, r"\A[ -~\n]*\Z")
            rows = text.split("\n")
            self.assertLessEqual(len(rows), 400, path.name)
            self.assertLessEqual(max(map(len, rows)), 120, path.name)
            for node in ast.walk(ast.parse(text)):
                if isinstance(node, ast.FunctionDef):
                    self.assertLessEqual(node.end_lineno - node.lineno + 1, 40, node.name)

    def test_imports_come_from_the_package(self):
        for path in self.files():
            for node in ast.walk(ast.parse(path.read_text())):
                self.assertNotIsInstance(node, ast.Import)
                if isinstance(node, ast.ImportFrom):
                    self.assertTrue(node.module.startswith("middlewebs."), path.name)
                    self.assertEqual([name.asname for name in node.names if name.asname], [])
                    module = importlib.import_module(node.module)
                    for name in node.names:
                        value = getattr(module, name.name)
                        self.assertEqual(getattr(value, "__module__", node.module), node.module)


if __name__ == "__main__":
    unittest.main()
