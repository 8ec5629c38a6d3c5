"""Points [10] and [11]: parallel edges, their classes, and halves."""

import copy
import unittest
from itertools import product

from helper import (
    Case, all_graphs, changed_graphs, complete_pair, grown_graphs, is_convex_in, many_median_graphs, median_graphs,
    mixed, no_edges, other_graphs, other_large_graphs, same_kind, table_of, tiny_graphs,
)
from middlewebs.convex import is_convex
from middlewebs.errors import InvalidEdge, Undefined
from middlewebs.graphs import Graph
from middlewebs.parallels import are_parallel, half, parallel_classes, wrong_edges

SQUARE = Graph(4, [(0, 1), (0, 2), (1, 3), (2, 3)])
TRIANGLE = Graph.cycle(3)


def parallel_in(table, one, other):
    (a, b), (c, d) = one, other
    return table[a][c] + table[b][d] != table[a][d] + table[b][c]


def classes_in(table, edges):
    """The finest partition, by putting classes together as long as two of them have parallel edges."""
    classes = []
    for edge in edges:
        met = [some for some in classes if any(parallel_in(table, edge, other) for other in some)]
        classes = [some for some in classes if some not in met] + [[edge] + [other for some in met for other in some]]
    return tuple(sorted(tuple(sorted(some)) for some in classes))


def wrong_edges_in(table, edges):
    """The first triple of edges that shows that being parallel is not transitive, or None."""
    parallel = {(e, f): parallel_in(table, e, f) for e, f in product(edges, repeat=2)}
    for e in edges:
        for f in edges:
            if parallel[e, f]:
                for g in edges:
                    if parallel[f, g] and not parallel[e, g]:
                        return (e, f, g)
    return None


def turned(edge):
    return (edge[1], edge[0])


class Parallel(Case):

    def test_the_square(self):
        self.assertIs(are_parallel(SQUARE, (0, 1), (2, 3)), True)
        self.assertIs(are_parallel(SQUARE, (1, 0), (2, 3)), True)
        self.assertIs(are_parallel(SQUARE, (0, 1), (0, 2)), False)
        self.assertIs(are_parallel(SQUARE, (0, 1), (1, 3)), False)

    def test_arguments_by_name(self):
        self.assertIs(are_parallel(other=(2, 3), one=(0, 1), graph=SQUARE), True)
        self.assertIs(are_parallel(SQUARE, other=(2, 3), one=(0, 2)), False)

    def test_an_edge_with_itself(self):
        for graph in all_graphs():
            for edge in graph.edges:
                for one in (edge, turned(edge)):
                    self.assertIs(are_parallel(graph, one, edge), True)
                    self.assertIs(are_parallel(graph, one, turned(edge)), True)

    def test_all_pairs_with_their_ends_in_either_order(self):
        for graph in median_graphs() + other_graphs() + list(tiny_graphs(4)) + changed_graphs()[:60]:
            table = table_of(graph)
            for one, other in product(graph.edges, repeat=2):
                expected = parallel_in(table, one, other)
                for e in (one, turned(one)):
                    for f in (other, turned(other)):
                        self.assertIs(are_parallel(graph, e, f), expected)

    def test_pairs_in_large_graphs(self):
        for graph in list(grown_graphs()) + other_large_graphs():
            table = table_of(graph)
            for one, other in product(graph.edges[::7], graph.edges[::11]):
                self.assertIs(are_parallel(graph, one, turned(other)), parallel_in(table, one, other))

    def test_the_edges_of_a_triangle_are_parallel(self):
        self.assertIs(are_parallel(TRIANGLE, (0, 1), (1, 2)), True)
        self.assertIs(are_parallel(Graph.cycle(5), (0, 1), (2, 3)), True)
        self.assertIs(are_parallel(Graph.cycle(5), (0, 1), (1, 2)), False)

    def test_what_is_no_edge(self):
        for graph in (SQUARE, Graph.cycle(6), Graph.path(40), Graph(2, [(0, 1)])):
            for value in no_edges(graph):
                told = {"value": copy.deepcopy(value)}
                error = self.assert_told(InvalidEdge, told, are_parallel, graph, value, (0, 1))
                self.assertIs(error.value, value)
                error = self.assert_told(InvalidEdge, told, are_parallel, graph, (1, 0), value)
                self.assertIs(error.value, value)
                self.assert_told(InvalidEdge, told, are_parallel, graph, other=value, one=(0, 1))

    def test_the_first_is_told(self):
        self.assert_told(InvalidEdge, {"value": (0, 3)}, are_parallel, SQUARE, (0, 3), (1, 2))
        self.assert_told(InvalidEdge, {"value": [0, 1]}, are_parallel, SQUARE, [0, 1], (0, 3))
        self.assert_told(InvalidEdge, {"value": (0, 3)}, are_parallel, SQUARE, (1, 0), (0, 3))
        self.assert_told(InvalidEdge, {"value": None}, are_parallel, SQUARE, other=(3, 0), one=None)

    def test_one_vertex_has_no_edges(self):
        for value in ((0, 0), (0, 1), (0,), (), 0, None):
            self.assert_told(InvalidEdge, {"value": value}, are_parallel, Graph(1, []), value, value)


class Classes(Case):

    def assert_classes(self, graph):
        before = (graph.size, graph.edges)
        table = table_of(graph)
        self.assert_same(parallel_classes(graph), classes_in(table, graph.edges))
        triple = wrong_edges_in(table, graph.edges)
        if triple is None:
            self.assert_told(Undefined, {"what": "edges"}, wrong_edges, graph)
        else:
            self.assert_same(wrong_edges(graph), triple)
        self.assert_same((graph.size, graph.edges), before)
        return triple

    def test_the_example_of_the_document(self):
        self.assert_same(parallel_classes(SQUARE), (((0, 1), (2, 3)), ((0, 2), (1, 3))))
        self.assert_same(parallel_classes(graph=Graph.path(3)), (((0, 1),), ((1, 2),)))

    def test_one_and_two_vertices(self):
        self.assert_same(parallel_classes(Graph(1, [])), ())
        self.assert_same(parallel_classes(Graph(2, [(0, 1)])), (((0, 1),),))
        self.assert_told(Undefined, {"what": "edges"}, wrong_edges, Graph(1, []))
        self.assert_told(Undefined, {"what": "edges"}, wrong_edges, graph=Graph(2, [(0, 1)]))

    def test_median_graphs(self):
        for graph in many_median_graphs():
            self.assertIsNone(self.assert_classes(graph))

    def test_other_graphs(self):
        for graph in other_graphs() + other_large_graphs() + changed_graphs():
            self.assert_classes(graph)
            if graph.size <= 12:
                self.assert_classes(mixed(graph, 3))

    def test_tiny_graphs(self):
        found = [self.assert_classes(graph) for graph in tiny_graphs(5)]
        self.assertIn(None, found)
        self.assertGreater(len([triple for triple in found if triple]), 100)

    def test_a_chain_of_parallel_edges_joins_a_class(self):
        # In the cycle of five each edge is parallel to the two opposite ones alone, yet all are in one class.
        self.assert_same(parallel_classes(Graph.cycle(5)), (Graph.cycle(5).edges,))
        self.assert_same(parallel_classes(Graph.cycle(39)), (Graph.cycle(39).edges,))
        self.assert_same(len(parallel_classes(Graph.cycle(40))), 20)

    def test_the_first_wrong_edges(self):
        self.assert_same(wrong_edges(Graph.cycle(5)), ((0, 1), (2, 3), (0, 4)))
        self.assert_same(wrong_edges(graph=complete_pair(2, 3)), ((0, 2), (1, 3), (0, 4)))
        # Of four vertices that are all joined those edges are parallel that have a common end.
        complete = Graph(4, [(0, 1), (0, 2), (0, 3), (1, 2), (1, 3), (2, 3)])
        self.assert_same(wrong_edges(complete), ((0, 1), (0, 2), (2, 3)))

    def test_parallel_may_be_transitive_without_sides(self):
        for graph in (TRIANGLE, Graph.cycle(3) * Graph.path(13), Graph.cycle(3) * Graph.cycle(3)):
            self.assert_told(Undefined, {"what": "edges"}, wrong_edges, graph)

    def test_the_same_question_again(self):
        other = mixed(Graph.cube(4), 3)
        first = parallel_classes(Graph.cube(4))
        between = parallel_classes(other)
        self.assertNotEqual(first, between)
        self.assert_same(parallel_classes(Graph.cube(4)), first)
        self.assert_same(parallel_classes(other), between)
        for _ in range(2):
            self.assert_same(wrong_edges(Graph.cycle(5)), ((0, 1), (2, 3), (0, 4)))
            self.assert_told(Undefined, {"what": "edges"}, wrong_edges, Graph.cycle(6))


class Halves(Case):

    def test_the_square(self):
        self.assert_same(half(SQUARE, (0, 1)), (0, 2))
        self.assert_same(half(SQUARE, (1, 0)), (1, 3))
        self.assert_same(half(SQUARE, (2, 3)), (0, 2))
        self.assert_same(half(edge=(3, 1), graph=SQUARE), (2, 3))

    def test_all_edges_in_both_orders(self):
        for graph in all_graphs() + list(tiny_graphs(4)) + list(grown_graphs()) + other_large_graphs():
            table = table_of(graph)
            before = (graph.size, graph.edges)
            for edge in graph.edges[:100]:
                for a, b in (edge, turned(edge)):
                    nearer = tuple(v for v in range(graph.size) if table[a][v] < table[b][v])
                    self.assert_same(half(graph, (a, b)), nearer)
                    self.assert_same(half(graph, (a, b)), nearer)
            self.assert_same((graph.size, graph.edges), before)

    def test_vertices_that_are_as_near_to_both_ends_are_in_neither_half(self):
        self.assert_same(half(TRIANGLE, (0, 1)), (0,))
        self.assert_same(half(TRIANGLE, (1, 0)), (1,))
        self.assert_same(half(Graph.cycle(5), (0, 1)), (0, 4))

    def test_in_a_median_graph_halves_and_what_remains_are_convex(self):
        for graph in many_median_graphs():
            table = table_of(graph) if graph.size <= 20 else None
            # All edges of a class have the same halves, so one of each class is enough for the large graphs.
            edges = graph.edges if table else [some[0] for some in parallel_classes(graph)]
            for a, b in edges:
                near = half(graph, (a, b))
                rest = tuple(v for v in graph if v not in near)
                self.assert_same(half(graph, (b, a)), rest)
                for part in (near, rest):
                    self.assertTrue(is_convex_in(table, part) if table else is_convex(graph, part))

    def test_halves_of_other_graphs_may_be_not_convex(self):
        self.assertIs(is_convex(complete_pair(2, 3), half(complete_pair(2, 3), (0, 2))), False)

    def test_all_edges_of_a_class_have_the_same_halves_in_median_graphs(self):
        for graph in many_median_graphs():
            for members in parallel_classes(graph):
                first, *others = [sorted([half(graph, edge), half(graph, turned(edge))]) for edge in members]
                self.assertTrue(all(same_kind(other, first) for other in others))

    def test_what_is_no_edge(self):
        for graph in (SQUARE, Graph.cycle(6), Graph.path(40), Graph(2, [(0, 1)])):
            for value in no_edges(graph):
                told = {"value": copy.deepcopy(value)}
                error = self.assert_told(InvalidEdge, told, half, graph, value)
                self.assertIs(error.value, value)
                self.assert_told(InvalidEdge, told, half, edge=value, graph=graph)
                self.assert_same(value, told["value"])
        self.assert_told(InvalidEdge, {"value": (0, 0)}, half, Graph(1, []), (0, 0))

    def test_nothing_changes(self):
        graph = Graph.cycle(6)
        self.assert_told(InvalidEdge, {"value": (0, 2)}, half, graph, (0, 2))
        self.assertEqual(graph, Graph.cycle(6))
        self.assert_same(half(graph, (0, 1)), (0, 4, 5))


if __name__ == "__main__":
    unittest.main()
