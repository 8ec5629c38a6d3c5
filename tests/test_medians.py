"""Point [9]: medians and median graphs."""

import copy
import unittest
from itertools import combinations, permutations

from helper import (
    Case, all_graphs, changed_graphs, complete_pair, grown_graphs, interval_in, many_median_graphs, median_graphs,
    mixed, no_vertices, other_graphs, other_large_graphs, table_of, tiny_graphs,
)
from middlewebs.errors import InvalidNumber, Undefined
from middlewebs.graphs import Graph
from middlewebs.medians import is_median_graph, median, medians, wrong_triple

SQUARE = Graph(4, [(0, 1), (0, 2), (1, 3), (2, 3)])
HEXAGON = Graph.cycle(6)


def medians_in(table, a, b, c):
    return tuple(
        v for v in range(len(table))
        if all(table[x][v] + table[v][y] == table[x][y] for x, y in ((a, b), (a, c), (b, c)))
    )


def wrong_triples_in(table):
    """The triples without exactly one median, the first one first."""
    size = len(table)
    between = [[set(interval_in(table, a, b)) for b in range(size)] for a in range(size)]
    for a, b, c in combinations(range(size), 3):
        if len(between[a][b] & between[a][c] & between[b][c]) != 1:
            yield (a, b, c)


class Medians(Case):

    def assert_medians(self, graph, table, a, b, c):
        expected = medians_in(table, a, b, c)
        self.assert_same(medians(graph, a, b, c), expected)
        if len(expected) == 1:
            self.assert_same(median(graph, a, b, c), expected[0])
        else:
            self.assert_told(Undefined, {"what": "median"}, median, graph, a, b, c)
        return expected

    def test_examples_of_the_document(self):
        self.assert_same(median(SQUARE, 0, 1, 2), 0)
        self.assert_same(medians(SQUARE, 0, 1, 2), (0,))
        self.assert_same(medians(HEXAGON, 0, 2, 4), ())
        self.assert_told(Undefined, {"what": "median"}, median, HEXAGON, 0, 2, 4)

    def test_several_medians(self):
        graph = complete_pair(2, 3)
        self.assert_same(medians(graph, 2, 3, 4), (0, 1))
        self.assert_told(Undefined, {"what": "median"}, median, graph, 2, 3, 4)
        self.assert_same(medians(complete_pair(3, 37), 37, 3, 39), (0, 1, 2))

    def test_paths_and_trees(self):
        self.assert_same(median(Graph.path(40), 39, 0, 17), 17)
        self.assert_same(median(Graph(40, [(0, k) for k in range(1, 40)]), 5, 39, 12), 0)

    def test_arguments_by_name(self):
        path = Graph.path(5)
        self.assert_same(medians(graph=path, c=1, b=4, a=3), (3,))
        self.assert_same(median(path, c=4, a=3, b=0), 3)
        self.assert_same(median(path, 0, c=1, b=2), 1)

    def test_a_vertex_twice(self):
        for graph in all_graphs() + list(tiny_graphs(4)):
            for a in (0, graph.size // 2, graph.size - 1):
                for b in graph:
                    for triple in ((a, a, b), (a, b, a), (b, a, a)):
                        self.assert_same(medians(graph, *triple), (a,))
                        self.assert_same(median(graph, *triple), a)

    def test_all_triples_of_tiny_graphs(self):
        for graph in tiny_graphs(4) + tiny_graphs(5)[-200:]:
            table = table_of(graph)
            for a in graph:
                for b in graph:
                    for c in graph:
                        self.assert_medians(graph, table, a, b, c)

    def test_triples_of_other_graphs(self):
        for graph in median_graphs() + other_graphs():
            table = table_of(graph)
            for a, b, c in combinations(range(graph.size), 3):
                for triple in ((a, b, c), (c, a, b), (b, a, c)):
                    self.assert_medians(graph, table, *triple)

    def test_triples_of_large_graphs(self):
        for graph in list(grown_graphs()) + other_large_graphs():
            table = table_of(graph)
            for k in range(60):
                a, b, c = (7 * k + 1) % graph.size, (11 * k + 5) % graph.size, (17 * k * k + 3) % graph.size
                self.assert_medians(graph, table, a, b, c)

    def test_the_order_of_the_three_does_not_matter(self):
        for graph in (HEXAGON, complete_pair(2, 4), Graph.cube(4)):
            for triple in ((0, 2, 4), (1, 2, 5), (0, 3, 5)):
                self.assertEqual(len({medians(graph, *turned) for turned in permutations(triple)}), 1)

    def test_the_same_question_again(self):
        other = mixed(Graph.cube(4), 3)
        first = [medians(Graph.cube(4), 3, 9, v) for v in range(16)]
        between = [medians(other, 3, 9, v) for v in range(16)]
        self.assertNotEqual(first, between)
        self.assert_same([medians(Graph.cube(4), 3, 9, v) for v in range(16)], first)
        self.assert_same([medians(other, 3, 9, v) for v in range(16)], between)


class WrongVertices(Case):

    def test_each_of_the_three(self):
        for graph in (SQUARE, HEXAGON, Graph(1, []), Graph.path(40)):
            for call in (medians, median):
                for value in no_vertices(graph):
                    told = {"value": copy.deepcopy(value)}
                    for place in range(3):
                        triple = [0, 0, 0]
                        triple[place] = value
                        error = self.assert_told(InvalidNumber, told, call, graph, *triple)
                        self.assertIs(error.value, value)
                    self.assert_told(InvalidNumber, told, call, graph, a=0, b=0, c=value)

    def test_the_first_is_told(self):
        for call in (medians, median):
            self.assert_told(InvalidNumber, {"value": -1}, call, SQUARE, -1, 4, None)
            self.assert_told(InvalidNumber, {"value": True}, call, SQUARE, 1, True, 4)
            self.assert_told(InvalidNumber, {"value": "1"}, call, SQUARE, 3, c=[0], b="1")
            self.assert_told(InvalidNumber, {"value": [0]}, call, SQUARE, c=10 ** 30, b=0, a=[0])

    def test_a_wrong_vertex_is_told_ahead_of_a_missing_median(self):
        self.assert_told(InvalidNumber, {"value": 6}, median, HEXAGON, 0, 2, 6)

    def test_nothing_changes(self):
        graph = Graph.cycle(6)
        self.assert_told(InvalidNumber, {"value": 6}, medians, graph, 0, 2, 6)
        self.assert_told(Undefined, {"what": "median"}, median, graph, 0, 2, 4)
        self.assertEqual(graph, Graph.cycle(6))
        self.assert_same(medians(graph, 0, 1, 2), (1,))


class MedianGraphs(Case):

    def assert_judged(self, graph):
        """The judge and the triple agree with what the words of the document say."""
        before = (graph.size, graph.edges)
        wrong = next(wrong_triples_in(table_of(graph)), None)
        self.assertIs(is_median_graph(graph), wrong is None)
        if wrong is None:
            self.assert_told(Undefined, {"what": "triple"}, wrong_triple, graph)
        else:
            self.assert_same(wrong_triple(graph), wrong)
        self.assert_same((graph.size, graph.edges), before)
        return wrong

    def test_median_graphs(self):
        for graph in many_median_graphs():
            self.assertIsNone(self.assert_judged(graph))

    def test_one_and_two_vertices(self):
        self.assertIs(is_median_graph(Graph(1, [])), True)
        self.assertIs(is_median_graph(graph=Graph(2, [(0, 1)])), True)
        self.assert_told(Undefined, {"what": "triple"}, wrong_triple, Graph(1, []))
        self.assert_told(Undefined, {"what": "triple"}, wrong_triple, graph=Graph(2, [(0, 1)]))

    def test_other_graphs(self):
        for graph in other_graphs() + other_large_graphs():
            for same in (graph, mixed(graph, 3)):
                self.assertIsNotNone(self.assert_judged(same))

    def test_the_first_triple(self):
        self.assert_same(wrong_triple(Graph.cycle(3)), (0, 1, 2))
        self.assert_same(wrong_triple(HEXAGON), (0, 2, 4))
        self.assert_same(wrong_triple(graph=complete_pair(2, 3)), (2, 3, 4))
        self.assert_same(wrong_triple(Graph.cycle(40)), (0, 2, 21))
        # A triangle at the end of a long path is met only by the last two vertices.
        tail = Graph(40, [(k, k + 1) for k in range(38)] + [(37, 39), (38, 39)])
        self.assert_same(wrong_triple(tail), (0, 38, 39))

    def test_tiny_graphs(self):
        found = [self.assert_judged(graph) for graph in tiny_graphs(5)]
        self.assertEqual(len(found), 772)
        self.assertIn(None, found[-728:])

    def test_one_edge_more_or_less(self):
        found = [self.assert_judged(graph) for graph in changed_graphs()]
        self.assertIn(None, found)
        self.assertGreater(len([wrong for wrong in found if wrong]), 100)

    def test_the_same_question_again(self):
        for _ in range(3):
            self.assertIs(is_median_graph(Graph.cube(3)), True)
            self.assertIs(is_median_graph(Graph.cycle(8)), False)
            self.assert_same(wrong_triple(Graph.cycle(8)), (0, 2, 5))
            self.assert_told(Undefined, {"what": "triple"}, wrong_triple, Graph.cube(3))


if __name__ == "__main__":
    unittest.main()
