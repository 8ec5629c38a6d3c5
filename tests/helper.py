"""Graphs to test with, and slow answers worked out from the words of the document alone."""

import unittest
from itertools import combinations

from middlewebs.graphs import Graph

TREE_EDGES = [(0, 1), (0, 2), (1, 3), (1, 4), (2, 5), (5, 6)]
LADDER_WITH_TAIL = [(0, 1), (0, 2), (1, 3), (2, 3), (2, 4), (3, 5), (4, 5), (5, 6)]
# A cube without one of its vertices: three vertices have no median.
THREE_SQUARES = [(0, 1), (0, 2), (0, 3), (1, 4), (1, 5), (2, 4), (2, 6), (3, 5), (3, 6)]


def median_graphs():
    return [
        Graph(1, []),
        Graph.path(2),
        Graph.path(7),
        Graph.cycle(4),
        Graph.cube(3),
        Graph(4, [(0, 1), (0, 2), (0, 3)]),
        Graph(7, TREE_EDGES),
        Graph(7, LADDER_WITH_TAIL),
        Graph.path(3) * Graph.path(3),
        Graph.path(5) * Graph.path(2),
        Graph(4, [(0, 1), (0, 2), (0, 3)]) * Graph.path(2),
    ]


def other_graphs():
    return [
        Graph.cycle(3),
        Graph.cycle(5),
        Graph.cycle(6),
        Graph.cycle(9),
        Graph(4, [(0, 1), (0, 2), (0, 3), (1, 2), (1, 3), (2, 3)]),
        Graph(4, [(0, 1), (0, 2), (1, 2), (1, 3), (2, 3)]),
        Graph(5, [(0, 2), (0, 3), (0, 4), (1, 2), (1, 3), (1, 4)]),
        Graph(7, THREE_SQUARES),
        Graph.cycle(3) * Graph.path(3),
    ]


def large_graphs():
    complete = [(a, b) for a in range(40) for b in range(a + 1, 40)]
    return [
        Graph.path(40),
        Graph.cycle(40),
        Graph.cube(5),
        Graph.path(8) * Graph.path(5),
        Graph.cube(3) * Graph.path(5),
        Graph.cycle(20) * Graph.path(2),
        Graph(40, [(0, k) for k in range(1, 40)]),
        Graph(40, complete),
    ]


def all_graphs():
    return median_graphs() + other_graphs() + large_graphs()


def table_of(graph):
    """All distances, by going through each vertex in turn as a way between each two others."""
    far = 10 ** 6
    size = graph.size
    table = [[0 if a == b else far for b in range(size)] for a in range(size)]
    for a, b in graph.edges:
        table[a][b] = table[b][a] = 1
    for middle in range(size):
        for a in range(size):
            for b in range(size):
                table[a][b] = min(table[a][b], table[a][middle] + table[middle][b])
    return table


def interval_in(table, a, b):
    return tuple(v for v in range(len(table)) if table[a][v] + table[v][b] == table[a][b])


def is_convex_in(table, subset):
    return all(set(interval_in(table, a, b)) <= set(subset) for a in subset for b in subset)


def is_median_in(table):
    for three in combinations(range(len(table)), 3):
        a, b, c = [set(interval_in(table, x, y)) for x, y in combinations(three, 2)]
        if len(a & b & c) != 1:
            return False
    return True


def subsets_of(size):
    """All ascending tuples of the vertices."""
    return [subset for many in range(size + 1) for subset in combinations(range(size), many)]


def convex_subsets_in(table):
    return [subset for subset in subsets_of(len(table)) if is_convex_in(table, subset)]


def no_vertices(graph):
    """Values of all kinds that are no vertex of the graph."""
    size = graph.size
    return [
        -1, size, size + 1, 40, 10 ** 30, -(10 ** 30), True, False, None, "", "0", "vertex",
        (), (0,), [], [0], graph, Graph.path(2),
    ]


def no_subsets(graph):
    """Values of all kinds that are no subset of the graph, of three or more vertices."""
    wrong_members = [(value,) for value in no_vertices(graph)]
    wrong_later = [(0, value) for value in no_vertices(graph)]
    return wrong_members + wrong_later + [
        None, True, False, 0, 1, "", "0", "01", [], [0], [0, 1], graph,
        (1, 0), (0, 0), (0, 2, 1), (0, 1, 1), (2, 0, 1), tuple(range(graph.size + 1)), ((0, 1),), (0, (1,)),
    ]


def same_kind(one, other):
    """Whether two values are equal and of the same kinds, within tuples and lists, too."""
    if type(one) is not type(other):
        return False
    if isinstance(one, (tuple, list)):
        return len(one) == len(other) and all(map(same_kind, one, other))
    return one == other


class Case(unittest.TestCase):

    def assert_same(self, found, expected):
        self.assertTrue(same_kind(found, expected), f"{found!r} is not {expected!r}")

    def assert_told(self, error_class, attributes, call, *args, **named):
        """The call raises just this error, with these attributes as its arguments."""
        with self.assertRaises(error_class) as caught:
            call(*args, **named)
        error = caught.exception
        self.assertIs(type(error), error_class)
        self.assertEqual(sorted(vars(error)), sorted(attributes))
        for name in attributes:
            self.assert_same(getattr(error, name), attributes[name])
        return error
