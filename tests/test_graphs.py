"""Points [1], [2], [4], [5] and [6]: graphs."""

import copy
import unittest

from helper import Case, all_graphs, no_vertices
from middlewebs.errors import InvalidGraph, InvalidNumber, TooLarge
from middlewebs.graphs import Graph

SQUARE = [(0, 1), (0, 2), (1, 3), (2, 3)]


class Making(Case):

    def assert_no_graph(self, part, place, size, edges):
        before = copy.deepcopy(edges)
        self.assert_told(InvalidGraph, {"part": part, "place": place}, Graph, size, edges)
        self.assert_told(InvalidGraph, {"part": part, "place": place}, Graph, edges=edges, size=size)
        self.assert_same(edges, before)

    def test_attributes(self):
        for edges in (SQUARE, tuple(SQUARE)):
            graph = Graph(4, edges)
            self.assert_same(graph.size, 4)
            self.assert_same(graph.edges, ((0, 1), (0, 2), (1, 3), (2, 3)))

    def test_arguments_by_name(self):
        self.assertEqual(Graph(size=4, edges=SQUARE), Graph(4, SQUARE))
        self.assertEqual(Graph(edges=tuple(SQUARE), size=4), Graph(4, SQUARE))

    def test_one_vertex(self):
        for edges in ([], ()):
            graph = Graph(1, edges)
            self.assert_same((graph.size, graph.edges, len(graph), list(graph)), (1, (), 1, [0]))
            self.assert_same(graph.neighbors(0), ())

    def test_forty_vertices(self):
        star = [(0, k) for k in range(1, 40)]
        graph = Graph(40, star)
        self.assertEqual((graph.size, graph.edges, len(graph)), (40, tuple(star), 40))
        self.assertEqual(graph.neighbors(0), tuple(range(1, 40)))
        everything = [(a, b) for a in range(40) for b in range(a + 1, 40)]
        self.assertEqual(Graph(40, everything).neighbors(7), tuple(v for v in range(40) if v != 7))

    def test_the_argument_is_not_changed_nor_kept(self):
        edges = list(SQUARE)
        graph = Graph(4, edges)
        self.assertEqual(edges, SQUARE)
        edges.append((0, 3))
        edges[0] = "changed"
        self.assertEqual(graph, Graph(4, SQUARE))
        self.assertEqual(graph.edges, tuple(SQUARE))
        self.assertNotIn((0, 3), graph)
        self.assertEqual(graph.neighbors(0), (1, 2))

    def test_wrong_sizes(self):
        wrong = [0, 41, -1, 42, 10 ** 30, -(10 ** 30), True, False, None, "4", "", (), (4,), [4], Graph.path(4)]
        for size in wrong:
            for edges in ([], SQUARE, None, [(5, 4)]):
                self.assert_no_graph("size", 0, size, edges)

    def test_edges_that_are_no_sequence(self):
        for edges in (None, True, False, 0, 3, "", "0-1", Graph.path(4)):
            for size in (1, 4, 40):
                self.assert_no_graph("edges", 0, size, edges)

    def test_wrong_edges(self):
        wrong = [
            None, True, 0, "01", "", (), (0,), (0, 1, 2), [0, 3], [], Graph.path(2),
            (3, 0), (2, 2), (0, 4), (-1, 0), (-2, -1), (0, 5), (4, 5), (0, 10 ** 30), (-(10 ** 30), 1),
            (False, 3), (0, True), (0, "3"), ("0", 3), (None, 3), (0, None), (0, (3,)), ((0, 3),), ([0], 3), (0, [3]),
        ]
        for edge in wrong:
            for kind in (list, tuple):
                for place in range(5):
                    edges = SQUARE[:place] + [edge] + SQUARE[place:]
                    self.assert_no_graph("edges", place, 4, kind(edges))

    def test_edges_that_do_not_ascend(self):
        self.assert_no_graph("edges", 1, 4, [(0, 1), (0, 1), (0, 2), (1, 3)])
        self.assert_no_graph("edges", 1, 4, [(0, 2), (0, 1), (1, 3), (2, 3)])
        self.assert_no_graph("edges", 3, 4, ((0, 1), (0, 2), (2, 3), (1, 3)))
        self.assert_no_graph("edges", 2, 4, [(0, 3), (1, 2), (0, 1)])

    def test_the_first_wrong_edge_is_told(self):
        self.assert_no_graph("edges", 1, 4, [(0, 1), (0, 1), None, (9, 9)])
        self.assert_no_graph("edges", 0, 4, [[0, 1], (0, 1), (0, 1)])
        self.assert_no_graph("edges", 4, 4, SQUARE + [(0, 0)])

    def test_one_vertex_has_no_edges(self):
        self.assert_no_graph("edges", 0, 1, [(0, 1)])
        self.assert_no_graph("edges", 0, 1, [(0, 0)])

    def test_parts(self):
        self.assert_no_graph("parts", 0, 2, [])
        self.assert_no_graph("parts", 0, 40, ())
        self.assert_no_graph("parts", 0, 3, [(1, 2)])
        self.assert_no_graph("parts", 0, 4, [(0, 1), (2, 3)])
        self.assert_no_graph("parts", 0, 40, [(k, k + 1) for k in range(38)])
        self.assert_no_graph("parts", 0, 6, ((0, 1), (0, 2), (1, 2), (3, 4), (3, 5), (4, 5)))

    def test_wrong_edges_are_told_ahead_of_parts(self):
        self.assert_no_graph("edges", 1, 4, [(0, 1), (0, 1)])
        self.assert_no_graph("edges", 0, 40, None)


class Asking(Case):

    def test_length_and_iteration(self):
        for graph in all_graphs():
            self.assert_same(len(graph), graph.size)
            self.assert_same(list(graph), list(range(graph.size)))
            self.assert_same(list(graph), list(range(graph.size)))
            self.assert_same([a for a in graph for b in graph], [a for a in range(graph.size) for b in range(graph.size)])

    def test_in(self):
        for graph in all_graphs():
            for a in graph:
                for b in graph:
                    joined = (min(a, b), max(a, b)) in graph.edges
                    self.assertIs((a, b) in graph, joined)

    def test_in_for_any_value_at_all(self):
        graph = Graph(4, SQUARE)
        wrong = [
            None, True, False, 0, 1, 7, "", "01", "0-1", (), (0,), (0, 1, 2), [], [0, 1], [0], graph, Graph.path(2),
            (0, True), (False, 1), (True, 3), (True, False), ("0", "1"), (0, "1"), (None, None), (0, None),
            ((0, 1),), ((0,), (1,)), ([0], [1]), ([0], 1), (0, [1]), ([], []), (graph, 1), (0, graph), (graph, graph),
            (0, 4), (4, 0), (-1, 0), (0, -1), (-2, -1), (2, -1), (0, 10 ** 30), (10 ** 30, 0), (0, 0), (3, 3),
            ((((((((((0, 1),),),),),),),),),),
        ]
        for value in wrong:
            self.assertIs(value in graph, False, repr(value))
            self.assertIs(value not in graph, True, repr(value))
        self.assertIs((1, 0) in graph, True)

    def test_in_one_vertex(self):
        graph = Graph(1, [])
        for value in ((0, 0), (0, 1), 0, (), None):
            self.assertIs(value in graph, False)

    def test_equality(self):
        square = Graph(4, SQUARE)
        self.assertIs(square == Graph(4, tuple(SQUARE)), True)
        self.assertIs(square != Graph(4, tuple(SQUARE)), False)
        self.assertIs(square == square, True)
        others = [
            Graph.path(4), Graph.path(5), Graph(4, [(0, 1), (0, 3), (1, 2), (2, 3)]), Graph.cube(3),
            None, True, 4, "graph", (), (4, tuple(SQUARE)), [4, SQUARE], tuple(SQUARE), SQUARE,
        ]
        for other in others:
            self.assertIs(square == other, False)
            self.assertIs(other == square, False)
            self.assertIs(square != other, True)
            self.assertIs(other != square, True)

    def test_neighbors(self):
        graph = Graph(4, SQUARE)
        self.assert_same([graph.neighbors(v) for v in range(4)], [(1, 2), (0, 3), (0, 3), (1, 2)])
        self.assert_same(graph.neighbors(vertex=3), (1, 2))
        for graph in all_graphs():
            for a in graph:
                expected = tuple(b for b in range(graph.size) if (a, b) in graph.edges or (b, a) in graph.edges)
                self.assert_same(graph.neighbors(a), expected)
                self.assert_same(graph.neighbors(a), expected)

    def test_neighbors_of_what_is_no_vertex(self):
        for graph in (Graph(4, SQUARE), Graph(1, []), Graph.cube(5)):
            for value in no_vertices(graph):
                self.assert_told(InvalidNumber, {"value": value}, graph.neighbors, value)
                self.assert_told(InvalidNumber, {"value": value}, graph.neighbors, vertex=value)
        self.assertEqual(Graph(4, SQUARE).neighbors(0), (1, 2))


class Families(Case):

    def test_paths(self):
        self.assertEqual(Graph.path(1), Graph(1, []))
        self.assertEqual(Graph.path(2), Graph(2, [(0, 1)]))
        self.assertEqual(Graph.path(number=4), Graph(4, [(0, 1), (1, 2), (2, 3)]))
        for number in range(1, 41):
            graph = Graph.path(number)
            self.assert_same(graph.size, number)
            self.assert_same(graph.edges, tuple((v, v + 1) for v in range(number - 1)))

    def test_cycles(self):
        self.assertEqual(Graph.cycle(3), Graph(3, [(0, 1), (0, 2), (1, 2)]))
        self.assertEqual(Graph.cycle(number=4), Graph(4, [(0, 1), (0, 3), (1, 2), (2, 3)]))
        for number in range(3, 41):
            graph = Graph.cycle(number)
            self.assert_same(graph.size, number)
            self.assertEqual(len(graph.edges), number)
            for v in graph:
                self.assertEqual(set(graph.neighbors(v)), {(v + 1) % number, (v - 1) % number})

    def test_cubes(self):
        self.assertEqual(Graph.cube(0), Graph(1, []))
        self.assertEqual(Graph.cube(1), Graph(2, [(0, 1)]))
        self.assertEqual(Graph.cube(2), Graph(4, SQUARE))
        self.assertEqual(Graph.cube(number=3).neighbors(0), (1, 2, 4))
        for number in range(6):
            graph = Graph.cube(number)
            words = [tuple(v >> k & 1 for k in range(number)) for v in range(2 ** number)]
            unlike = [[sum(x != y for x, y in zip(a, b)) for b in words] for a in words]
            expected = tuple((a, b) for a in range(len(words)) for b in range(a, len(words)) if unlike[a][b] == 1)
            self.assert_same(graph.size, 2 ** number)
            self.assert_same(graph.edges, expected)

    def test_they_give_graphs(self):
        for graph in (Graph.path(1), Graph.cycle(3), Graph.cube(0)):
            self.assertIs(type(graph), Graph)

    def test_wrong_numbers(self):
        odd = [True, False, None, "3", "", (), (3,), [], [3], Graph.path(3), 10 ** 30, -(10 ** 30), -1, -3]
        for number in odd + [0, 41, 42]:
            self.assert_told(InvalidNumber, {"value": number}, Graph.path, number)
        for number in odd + [0, 1, 2, 41, 42]:
            self.assert_told(InvalidNumber, {"value": number}, Graph.cycle, number)
        for number in odd + [6, 7, 40]:
            self.assert_told(InvalidNumber, {"value": number}, Graph.cube, number)
        for made in (Graph.path, Graph.cycle, Graph.cube):
            self.assert_told(InvalidNumber, {"value": 41}, made, number=41)


class Products(Case):

    def test_the_pairs(self):
        small = [graph for graph in all_graphs() if graph.size <= 9]
        for one in small:
            for other in small:
                if one.size * other.size <= 40:
                    self.assert_product(one, other)

    def assert_product(self, one, other):
        pairs = [(a, b) for a in range(one.size) for b in range(other.size)]
        expected = []
        for v, (a, b) in enumerate(pairs):
            for w, (c, d) in enumerate(pairs):
                if v < w and (a == c and (b, d) in other or b == d and (a, c) in one):
                    expected.append((v, w))
        before = (one.size, one.edges, other.size, other.edges)
        product = one * other
        self.assertIs(type(product), Graph)
        self.assert_same(product.size, len(pairs))
        self.assert_same(product.edges, tuple(expected))
        self.assertEqual(product, one * other)
        self.assertEqual((one.size, one.edges, other.size, other.edges), before)

    def test_small_products(self):
        self.assertEqual(Graph.path(2) * Graph.path(2), Graph(4, SQUARE))
        ladder = Graph(6, [(0, 1), (0, 3), (1, 2), (1, 4), (2, 5), (3, 4), (4, 5)])
        self.assertEqual(Graph.path(2) * Graph.path(3), ladder)
        self.assertNotEqual(Graph.path(3) * Graph.path(2), ladder)

    def test_one_vertex_changes_nothing(self):
        for graph in all_graphs():
            self.assertEqual(graph * Graph.path(1), graph)
            self.assertEqual(Graph.path(1) * graph, graph)

    def test_just_forty_vertices(self):
        for a, b in ((1, 40), (2, 20), (4, 10), (5, 8), (8, 5), (10, 4), (20, 2), (40, 1)):
            self.assert_product(Graph.path(a), Graph.path(b))
        self.assert_product(Graph.cycle(8), Graph.cycle(5))

    def test_more_than_forty_vertices(self):
        for a, b in ((2, 21), (21, 2), (3, 14), (14, 3), (6, 7), (7, 6), (40, 2), (2, 40), (40, 40)):
            one, other = Graph.path(a), Graph.path(b)
            self.assert_told(TooLarge, {"what": "vertices"}, lambda x, y: x * y, one, other)
            self.assertEqual((one, other), (Graph.path(a), Graph.path(b)))


if __name__ == "__main__":
    unittest.main()
