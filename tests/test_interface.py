"""The interface and the form of the code: where each name is defined, and how its parameters are called."""

import ast
import builtins
import importlib
import inspect
import unittest
from pathlib import Path

from middlewebs.clauses import Clauses
from middlewebs.desk import Desk
from middlewebs.events import Events
from middlewebs.folds import Folding
from middlewebs.graphs import Graph
from middlewebs.growth import Growth
from middlewebs.words import Words

PACKAGE = Path(__file__).resolve().parent.parent / "middlewebs"

FUNCTIONS = {
    "distances": {
        "distance": ["graph", "a", "b"],
        "interval": ["graph", "a", "b"],
        "shortest_path": ["graph", "a", "b"],
    },
    "convex": {
        "is_convex": ["graph", "subset"],
        "convex_hull": ["graph", "subset"],
        "gate": ["graph", "subset", "vertex"],
        "common": ["graph", "subsets"],
        "apart": ["graph", "subsets"],
    },
    "graphs": {"Graph": ["size", "edges"]},
    "medians": {
        "medians": ["graph", "a", "b", "c"],
        "median": ["graph", "a", "b", "c"],
        "is_median_graph": ["graph"],
        "wrong_triple": ["graph"],
    },
    "parallels": {
        "are_parallel": ["graph", "one", "other"],
        "parallel_classes": ["graph"],
        "wrong_edges": ["graph"],
        "half": ["graph", "edge"],
    },
    "sides": {"sides": ["graph"], "odd_cycle": ["graph"]},
    "labelings": {"is_labeling": ["graph", "value"], "labeling": ["graph"]},
    "words": {
        "Words": ["length", "words"],
        "majority": ["one", "other", "third"],
        "is_closed": ["words"],
        "wrong_words": ["words"],
        "closed": ["words"],
        "is_reduced": ["words"],
        "kept_letters": ["words"],
        "reduced": ["words"],
    },
    "wordgraphs": {"words_graph": ["words"], "graph_words": ["graph"]},
    "clauses": {"Clauses": ["letters", "clauses"], "holds": ["clauses", "word"]},
    "settings": {
        "settings": ["clauses"],
        "clauses_words": ["clauses"],
        "contradiction": ["clauses"],
        "is_contradiction": ["clauses", "value"],
        "follows": ["clauses", "clause"],
    },
    "wordclauses": {"words_clauses": ["words"], "further_word": ["words"], "spared": ["clauses"]},
    "events": {
        "Events": ["many", "causes", "conflicts"],
        "is_state": ["events", "value"],
        "states": ["events"],
        "impossible": ["events"],
        "merged": ["events", "one", "other"],
        "conflict": ["events", "one", "other"],
    },
    "eventgraphs": {"events_graph": ["events"], "graph_events": ["graph", "start"], "completed": ["events"]},
    "growth": {
        "expanded": ["graph", "subset"],
        "Growth": ["subsets"],
        "grown": ["growth"],
        "peripheral_halves": ["graph"],
        "growth_of": ["graph"],
        "is_growth_of": ["graph", "value"],
    },
    "folds": {
        "fold": ["words", "word"],
        "folding": ["words"],
        "Folding": ["length", "images"],
        "folded_words": ["folding"],
    },
    "totals": {
        "total": ["graph", "weights", "vertex"],
        "least_vertices": ["graph", "weights"],
        "center": ["graph"],
    },
    "cubes": {"cubes": ["graph"], "cube_counts": ["graph"]},
    "boxes": {
        "contracted": ["graph", "edges"],
        "factor": ["graph", "k"],
        "is_box": ["graph", "value"],
        "box": ["graph"],
    },
    "forms": {
        "form_of": ["value"],
        "graph_of": ["value"],
        "led": ["value", "form"],
        "are_alike": ["one", "other"],
    },
    "texts": {"write": ["value"], "read": ["text"]},
    "desk": {"Desk": ["graph"], "replayed_desk": ["graph", "commands"]},
    "names": {
        "are_names": ["one", "other", "value"],
        "names_to": ["one", "other"],
        "renamed": ["graph", "names"],
    },
}
BUILTINS = """
len range enumerate zip min max sum abs sorted reversed int str bool list tuple dict set isinstance ord repr any all
divmod iter ValueError NotImplemented classmethod
""".split()
GRAPH_METHODS = {"neighbors": ["vertex"], "path": ["number"], "cycle": ["number"], "cube": ["number"]}


class Interface(unittest.TestCase):

    def test_names_and_parameters(self):
        for file, functions in FUNCTIONS.items():
            module = importlib.import_module(f"middlewebs.{file}")
            for name, parameters in functions.items():
                value = getattr(module, name)
                self.assertEqual(value.__module__, f"middlewebs.{file}")
                self.assertEqual(list(inspect.signature(value).parameters), parameters)

    def test_methods_stand_in_the_class_itself(self):
        graph = Graph.path(2)
        for name, parameters in GRAPH_METHODS.items():
            self.assertIn(name, vars(Graph))
            self.assertEqual(list(inspect.signature(getattr(graph, name)).parameters), parameters)
        for name in ("__init__", "__len__", "__iter__", "__contains__", "__eq__", "__mul__"):
            self.assertIn(name, vars(Graph))
        for name in ("__init__", "__len__", "__iter__", "__contains__", "__eq__"):
            self.assertIn(name, vars(Words))
        for name in ("__init__", "__eq__"):
            for each in (Clauses, Events, Growth, Folding):
                self.assertIn(name, vars(each))
        for name in ("__init__", "run"):
            self.assertIn(name, vars(Desk))
        self.assertEqual(list(inspect.signature(Desk(graph).run).parameters), ["command"])

    def test_attributes_are_set_on_each_object(self):
        for graph in (Graph(1, []), Graph.cube(3), Graph.path(2) * Graph.path(2)):
            self.assertLessEqual({"size", "edges"}, set(vars(graph)))
        self.assertLessEqual({"length", "words"}, set(vars(Words(0, [()]))))
        self.assertLessEqual({"letters", "clauses"}, set(vars(Clauses(0, []))))
        self.assertLessEqual({"many", "causes", "conflicts"}, set(vars(Events(0, [], []))))
        self.assertLessEqual({"subsets"}, set(vars(Growth([]))))
        self.assertLessEqual({"length", "images"}, set(vars(Folding(0, ((),)))))
        self.assertLessEqual({"graph", "start", "commands"}, set(vars(Desk(Graph(1, [])))))


class Form(unittest.TestCase):

    def files(self):
        return [path for path in sorted(PACKAGE.rglob("*")) if "__pycache__" not in path.parts]

    def test_the_folder_has_nothing_but_plain_files(self):
        self.assertIn(PACKAGE / "__init__.py", self.files())
        for path in self.files():
            self.assertRegex(str(path.relative_to(PACKAGE)), r"\A[a-z0-9_]+\.py\Z")

    def test_sizes_and_characters(self):
        for path in self.files():
            text = path.read_bytes().decode("ascii")
            self.assertRegex(text, r"\A[ -~\n]*\Z")
            rows = text.split("\n")
            self.assertLessEqual(len(rows), 400, path.name)
            self.assertLessEqual(max(map(len, rows)), 120, path.name)
            for node in ast.walk(ast.parse(text)):
                if isinstance(node, ast.FunctionDef):
                    self.assertLessEqual(node.end_lineno - node.lineno + 1, 40, node.name)

    def test_imports_come_from_the_package(self):
        for path in self.files():
            for node in ast.walk(ast.parse(path.read_text())):
                self.assertNotIsInstance(node, ast.Import)
                if isinstance(node, ast.ImportFrom):
                    self.assertTrue(node.module.startswith("middlewebs."), path.name)
                    self.assertEqual([name.asname for name in node.names if name.asname], [])
                    module = importlib.import_module(node.module)
                    for name in node.names:
                        value = getattr(module, name.name)
                        self.assertEqual(getattr(value, "__module__", node.module), node.module)

    def test_imports_do_not_lead_back(self):
        needs = {
            f"middlewebs.{path.stem}": [
                node.module for node in ast.walk(ast.parse(path.read_text())) if isinstance(node, ast.ImportFrom)
            ]
            for path in self.files()
        }
        while needs:
            ready = [name for name in needs if not any(other in needs for other in needs[name])]
            self.assertNotEqual(ready, [])
            needs = {name: needs[name] for name in needs if name not in ready}

    def bound_names(self, tree):
        for node in ast.walk(tree):
            if isinstance(node, ast.Name) and isinstance(node.ctx, ast.Store):
                yield node.id
            if isinstance(node, ast.arg):
                yield node.arg
            if isinstance(node, (ast.FunctionDef, ast.ClassDef)):
                yield node.name

    def test_no_name_is_a_builtin_or_an_import_or_a_class(self):
        for path in self.files():
            tree = ast.parse(path.read_text())
            taken = [name.name for node in tree.body if isinstance(node, ast.ImportFrom) for name in node.names]
            self.assertEqual(len(set(taken)), len(taken), path.name)
            bound = list(self.bound_names(tree))
            self.assertEqual([name for name in bound if name in taken or name in dir(builtins)], [], path.name)
            for node in tree.body:
                if isinstance(node, ast.ClassDef):
                    self.assertEqual(bound.count(node.name), 1, path.name)

    def test_only_some_builtins_are_used(self):
        for path in self.files():
            for node in ast.walk(ast.parse(path.read_text())):
                if isinstance(node, ast.Name) and isinstance(node.ctx, ast.Load) and node.id in dir(builtins):
                    self.assertIn(node.id, BUILTINS, path.name)

    def test_what_is_left_out(self):
        for path in self.files():
            for node in ast.walk(ast.parse(path.read_text())):
                # Where a class has __eq__, as Graph has, any, all, sum, sorted and the like take lists instead.
                self.assertNotIsInstance(node, (ast.GeneratorExp, ast.Global), path.name)
                if isinstance(node, ast.Constant) and isinstance(node.value, str):
                    self.assertNotIn("%", node.value, path.name)
                    self.assertNotIn("\\", node.value, path.name)


if __name__ == "__main__":
    unittest.main()
