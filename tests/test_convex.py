"""Points [8] and [26]: convex subsets, gates, and what convex subsets have in common."""

import copy
import unittest
from itertools import combinations

from helper import (
    Case, all_graphs, convex_subsets_in, interval_in, is_convex_in, is_median_in, large_graphs, median_graphs,
    no_subsets, no_vertices, other_graphs, subsets_of, table_of,
)
from middlewebs.convex import apart, common, convex_hull, gate, is_convex
from middlewebs.distances import interval
from middlewebs.errors import InvalidNumber, InvalidSubset, Undefined
from middlewebs.graphs import Graph

SQUARE = Graph(4, [(0, 1), (0, 2), (1, 3), (2, 3)])
TRIANGLE = Graph.cycle(3)


def few_subsets(size):
    """All subsets of a small graph, some of a larger one."""
    return subsets_of(size) if size <= 7 else subsets_of(7) + [tuple(range(1, size, 3)), tuple(range(size))]


def hull_in(table, subset):
    """The least convex subset, by adding intervals until nothing is new."""
    hull = set(subset)
    while True:
        more = hull.union(*[interval_in(table, a, b) for a in hull for b in hull])
        if more == hull:
            return tuple(sorted(hull))
        hull = more


def gates_in(table, subset, vertex):
    return [g for g in subset if all(g in interval_in(table, vertex, other) for other in subset)]


class Convex(Case):

    def test_the_square(self):
        self.assertIs(is_convex(SQUARE, ()), True)
        self.assertIs(is_convex(SQUARE, (2,)), True)
        self.assertIs(is_convex(SQUARE, (0, 2)), True)
        self.assertIs(is_convex(SQUARE, (0, 3)), False)
        self.assertIs(is_convex(SQUARE, (0, 1, 3)), False)
        self.assertIs(is_convex(SQUARE, (0, 1, 2, 3)), True)
        self.assert_same(convex_hull(SQUARE, (1, 2)), (0, 1, 2, 3))
        self.assert_same(convex_hull(SQUARE, (1, 3)), (1, 3))

    def test_the_empty_subset_and_one_vertex(self):
        for graph in all_graphs():
            self.assertIs(is_convex(graph, ()), True)
            self.assert_same(convex_hull(graph, ()), ())
            for vertex in graph:
                self.assertIs(is_convex(graph, (vertex,)), True)
                self.assert_same(convex_hull(graph, (vertex,)), (vertex,))
            self.assertIs(is_convex(graph, tuple(graph)), True)
            self.assert_same(convex_hull(graph, tuple(graph)), tuple(graph))

    def test_arguments_by_name(self):
        self.assertIs(is_convex(subset=(0, 3), graph=SQUARE), False)
        self.assertEqual(convex_hull(graph=SQUARE, subset=(0, 3)), (0, 1, 2, 3))

    def test_is_convex(self):
        for graph in median_graphs() + other_graphs():
            table = table_of(graph)
            for subset in few_subsets(graph.size):
                self.assertIs(is_convex(graph, subset), is_convex_in(table, subset))

    def test_convex_hull(self):
        for graph in median_graphs() + other_graphs():
            table = table_of(graph)
            convex = convex_subsets_in(table)
            for subset in few_subsets(graph.size):
                hull = convex_hull(graph, subset)
                self.assertIn(hull, convex)
                for larger in convex:
                    self.assertTrue(not set(subset) <= set(larger) or set(hull) <= set(larger))

    def test_hulls_in_large_graphs(self):
        for graph in large_graphs():
            table = table_of(graph)
            pairs = [(0, graph.size - 1), (0, 1), (3, 17), (5, 31), (0, 9, 20), (1, 12, 25, 31), (3, 4, 5, 6, 7)]
            for subset in pairs:
                hull = hull_in(table, subset)
                self.assert_same(convex_hull(graph, subset), hull)
                self.assert_same(convex_hull(graph, subset), hull)
                self.assertIs(is_convex(graph, hull), True)
                self.assertIs(is_convex(graph, subset), hull == subset)

    def test_a_hull_that_takes_several_rounds(self):
        # In the cube the interval of two words is convex, but three neighbors of a word span all of it.
        graph = Graph.cube(3)
        self.assertEqual(convex_hull(graph, (1, 2)), (0, 1, 2, 3))
        self.assertEqual(convex_hull(graph, (1, 2, 4)), tuple(range(8)))

    def test_what_is_no_subset(self):
        for graph in (SQUARE, TRIANGLE, Graph.path(39)):
            for value in no_subsets(graph):
                for call in (is_convex, convex_hull):
                    before = copy.deepcopy(value)
                    error = self.assert_told(InvalidSubset, {"value": before}, call, graph, value)
                    self.assertIs(error.value, value)
                    self.assert_told(InvalidSubset, {"value": before}, call, subset=value, graph=graph)
        self.assert_told(InvalidSubset, {"value": (1,)}, is_convex, Graph(1, []), (1,))


class Gates(Case):

    def test_examples(self):
        path = Graph.path(5)
        self.assert_same(gate(path, (1, 2), 4), 2)
        self.assert_same(gate(path, (1, 2), 0), 1)
        self.assert_same(gate(path, (1, 2), 2), 2)
        self.assert_same(gate(graph=SQUARE, vertex=3, subset=(0, 1)), 1)
        self.assert_same(gate(Graph(1, []), (0,), 0), 0)

    def test_a_subset_that_is_not_convex_may_have_gates(self):
        path = Graph.path(5)
        self.assertEqual(gate(path, (1, 3), 0), 1)
        self.assertEqual(gate(path, (1, 3), 3), 3)
        self.assert_told(Undefined, {"what": "gate"}, gate, path, (1, 3), 2)

    def test_all_small_subsets(self):
        for graph in median_graphs() + other_graphs():
            table = table_of(graph)
            for subset in few_subsets(min(graph.size, 6)):
                for vertex in graph:
                    expected = gates_in(table, subset, vertex)
                    if not subset:
                        self.assert_told(InvalidSubset, {"value": ()}, gate, graph, subset, vertex)
                    elif expected:
                        self.assert_same([gate(graph, subset, vertex)], expected)
                    else:
                        self.assert_told(Undefined, {"what": "gate"}, gate, graph, subset, vertex)

    def test_a_vertex_of_the_subset_is_its_own_gate(self):
        for graph in all_graphs():
            for vertex in graph:
                self.assert_same(gate(graph, tuple(graph), vertex), vertex)
                self.assert_same(gate(graph, (vertex,), 0), vertex)

    def test_without_a_gate(self):
        self.assert_told(Undefined, {"what": "gate"}, gate, TRIANGLE, (0, 1), 2)
        self.assert_told(Undefined, {"what": "gate"}, gate, Graph.cycle(6), (0, 1, 2), 4)
        self.assert_told(Undefined, {"what": "gate"}, gate, SQUARE, (1, 2), 0)

    def test_convex_subsets_of_median_graphs_have_gates(self):
        for graph in median_graphs():
            table = table_of(graph)
            self.assertTrue(is_median_in(table))
            for subset in convex_subsets_in(table)[1:]:
                for vertex in graph:
                    self.assert_same([gate(graph, subset, vertex)], gates_in(table, subset, vertex))

    def test_convex_subsets_of_large_median_graphs_have_gates(self):
        for graph in [Graph.path(40), Graph.cube(5), Graph.path(8) * Graph.path(5), Graph.cube(3) * Graph.path(5)]:
            table = table_of(graph)
            for a, b in ((0, 1), (0, 7), (3, 30), (12, 13), (9, 25), (31, 31)):
                subset = interval(graph, a, b)
                self.assertIs(is_convex(graph, subset), True)
                for vertex in graph:
                    self.assert_same([gate(graph, subset, vertex)], gates_in(table, subset, vertex))

    def test_errors_in_their_order(self):
        for graph in (SQUARE, TRIANGLE, Graph.path(39)):
            for value in no_subsets(graph) + [()]:
                for vertex in (0, -1, None, True):
                    self.assert_told(InvalidSubset, {"value": copy.deepcopy(value)}, gate, graph, value, vertex)
            for vertex in no_vertices(graph):
                for subset in ((0,), (0, 1), (0, 2), tuple(graph)):
                    self.assert_told(InvalidNumber, {"value": vertex}, gate, graph, subset, vertex)
                    self.assert_told(InvalidNumber, {"value": vertex}, gate, graph, subset, vertex=vertex)


class Together(Case):

    def test_examples(self):
        path = Graph.path(6)
        for kind in (list, tuple):
            self.assert_same(common(path, kind([(0, 1, 2, 3), (2, 3, 4), (1, 2, 3)])), (2, 3))
            self.assert_same(common(path, kind([(0, 1), (3, 4)])), ())
            self.assert_same(apart(path, kind([(0, 1), (1, 2), (3,), (2, 3)])), (0, 2))
            self.assert_same(apart(path, kind([(1, 2), (2, 3), (3, 4), (0, 1)])), (0, 2))
            self.assert_same(apart(path, kind([(1, 2), (1,), (0, 1), (2, 3)])), (1, 3))
        self.assertEqual(common(subsets=[(0, 1), (1, 2)], graph=path), (1,))
        self.assertEqual(apart(subsets=[(0, 1), (2, 3)], graph=path), (0, 1))

    def test_one_subset(self):
        for graph in all_graphs():
            whole = tuple(graph)
            self.assert_same(common(graph, [whole]), whole)
            self.assert_same(common(graph, [(0,)]), (0,))
            self.assert_told(Undefined, {"what": "pair"}, apart, graph, [whole])
            self.assert_told(Undefined, {"what": "pair"}, apart, graph, (whole, (0,), whole))

    def test_the_same_subset_several_times(self):
        self.assert_same(common(SQUARE, [(0, 1), (0, 1), (0, 1)]), (0, 1))
        self.assert_told(Undefined, {"what": "pair"}, apart, SQUARE, [(0, 1), (0, 1)])
        self.assert_same(apart(SQUARE, [(0,), (0,), (3,), (3,)]), (0, 2))

    def test_sixty_subsets(self):
        path = Graph.path(40)
        subsets = [tuple(range(k % 20, k % 20 + 20)) for k in range(60)]
        self.assert_same(common(path, subsets), (19,))
        self.assert_told(Undefined, {"what": "pair"}, apart, path, subsets)
        self.assert_same(apart(path, subsets[:-1] + [tuple(range(39, 40))]), (0, 59))

    def assert_meets(self, graph, subsets):
        shared = tuple(v for v in graph if all(v in subset for subset in subsets))
        pairs = [(i, j) for i, j in combinations(range(len(subsets)), 2) if not set(subsets[i]) & set(subsets[j])]
        before = copy.deepcopy(subsets)
        self.assert_same(common(graph, subsets), shared)
        if pairs:
            self.assert_same(apart(graph, subsets), pairs[0])
        else:
            self.assert_told(Undefined, {"what": "pair"}, apart, graph, subsets)
        self.assert_same(subsets, before)
        return shared == (), pairs != []

    def test_convex_subsets_that_meet_pairwise_in_median_graphs(self):
        for graph in median_graphs():
            subsets = convex_subsets_in(table_of(graph))[1:]
            if len(subsets) > 12:
                subsets = subsets[::len(subsets) // 12]
            for many in (1, 2, 3):
                for some in combinations(subsets, many):
                    empty, defined = self.assert_meets(graph, list(some))
                    self.assertEqual(empty, defined)

    def test_many_convex_subsets_in_large_median_graphs(self):
        for graph in [Graph.path(40), Graph.cube(5), Graph.path(8) * Graph.path(5)]:
            subsets = [interval(graph, a, (7 * a + 3 * k) % graph.size) for k in range(4) for a in range(6)]
            for many in (3, 5, 8):
                for first in range(0, len(subsets) - many, 2):
                    empty, defined = self.assert_meets(graph, tuple(subsets[first:first + many]))
                    self.assertEqual(empty, defined)

    def test_others_may_meet_pairwise_without_a_common_vertex(self):
        self.assertEqual(self.assert_meets(TRIANGLE, [(0, 1), (1, 2), (0, 2)]), (True, False))
        self.assertEqual(self.assert_meets(Graph.cycle(6), [(0, 1, 2), (2, 3, 4), (0, 4, 5)]), (True, False))

    def test_what_is_no_sequence_of_subsets(self):
        for call in (common, apart):
            for value in (None, True, False, 0, 7, "", "01", (), [], SQUARE):
                error = self.assert_told(InvalidSubset, {"value": value}, call, SQUARE, value)
                self.assertIs(error.value, value)
                self.assert_told(InvalidSubset, {"value": value}, call, subsets=value, graph=SQUARE)

    def test_wrong_subsets(self):
        for graph in (SQUARE, Graph.path(39)):
            wrong = no_subsets(graph) + [(), (0, 3), (0, 1, 3)]
            for call in (common, apart):
                for value in wrong:
                    for subsets in ([value], (value, (0,)), [(0,), (1,), value], [(0, 1), value, (), None]):
                        before = copy.deepcopy(subsets)
                        error = self.assert_told(InvalidSubset, {"value": copy.deepcopy(value)}, call, graph, subsets)
                        self.assertIs(error.value, value)
                        self.assert_same(subsets, before)

    def test_the_first_wrong_subset_is_told(self):
        for call in (common, apart):
            self.assert_told(InvalidSubset, {"value": ()}, call, SQUARE, [(0, 1), (), (0, 3), None])
            self.assert_told(InvalidSubset, {"value": (0, 3)}, call, SQUARE, [(0, 1), (0, 3), ()])
            self.assert_told(InvalidSubset, {"value": [0]}, call, SQUARE, ([0], (0, 3)))
            self.assert_told(InvalidSubset, {"value": 0}, call, SQUARE, (0, 1))
            self.assert_told(InvalidSubset, {"value": (3, 2)}, call, SQUARE, [(0,), (1,), (3, 2)])


if __name__ == "__main__":
    unittest.main()
