"""Point [7]: distances, intervals and shortest paths."""

import unittest

from helper import Case, all_graphs, interval_in, no_vertices, table_of
from middlewebs.distances import distance, interval, shortest_path
from middlewebs.errors import InvalidNumber
from middlewebs.graphs import Graph

SQUARE = Graph(4, [(0, 1), (0, 2), (1, 3), (2, 3)])


def shortest_ways(graph, table, a, b):
    """All shortest ways from a to b, in any order."""
    if a == b:
        return [(a,)]
    nearer = [v for v in graph if (a, v) in graph and table[v][b] == table[a][b] - 1]
    return [(a, *rest) for v in reversed(nearer) for rest in shortest_ways(graph, table, v, b)]


class Distances(Case):

    def test_the_square(self):
        self.assert_same(distance(SQUARE, 0, 3), 2)
        self.assert_same(distance(SQUARE, 1, 0), 1)
        self.assert_same(distance(SQUARE, 2, 2), 0)
        self.assert_same(interval(SQUARE, 0, 3), (0, 1, 2, 3))
        self.assert_same(interval(SQUARE, 2, 0), (0, 2))
        self.assert_same(interval(SQUARE, 1, 1), (1,))
        self.assert_same(shortest_path(SQUARE, 0, 3), (0, 1, 3))
        self.assert_same(shortest_path(SQUARE, 2, 1), (2, 0, 1))
        self.assert_same(shortest_path(SQUARE, 3, 3), (3,))

    def test_arguments_by_name(self):
        graph = Graph.path(5)
        self.assertEqual(distance(graph, b=3, a=1), 2)
        self.assertEqual(interval(b=1, graph=graph, a=3), (1, 2, 3))
        self.assertEqual(shortest_path(graph=graph, a=3, b=1), (3, 2, 1))

    def test_one_vertex(self):
        graph = Graph(1, [])
        self.assert_same(distance(graph, 0, 0), 0)
        self.assert_same(interval(graph, 0, 0), (0,))
        self.assert_same(shortest_path(graph, 0, 0), (0,))

    def test_forty_vertices(self):
        self.assertEqual(distance(Graph.path(40), 0, 39), 39)
        self.assertEqual(interval(Graph.path(40), 39, 0), tuple(range(40)))
        self.assertEqual(shortest_path(Graph.path(40), 39, 0), tuple(range(39, -1, -1)))
        self.assertEqual(distance(Graph.cycle(40), 0, 20), 20)
        self.assertEqual(interval(Graph.cycle(40), 0, 20), tuple(range(40)))
        self.assertEqual(interval(Graph.cycle(40), 0, 21), (0, *range(21, 40)))
        self.assertEqual(shortest_path(Graph.cycle(40), 0, 20), tuple(range(21)))
        self.assertEqual(shortest_path(Graph.cycle(40), 20, 0), tuple(range(20, -1, -1)))

    def test_distances_and_intervals_of_all_pairs(self):
        for graph in all_graphs():
            table = table_of(graph)
            for a in graph:
                for b in graph:
                    self.assert_same(distance(graph, a, b), table[a][b])
                    self.assert_same(interval(graph, a, b), interval_in(table, a, b))

    def test_the_first_of_all_shortest_paths(self):
        for graph in all_graphs():
            table = table_of(graph)
            for a in graph:
                for b in graph:
                    found = shortest_path(graph, a, b)
                    self.assert_same(found, min(shortest_ways(graph, table, a, b)))
                    self.assertEqual(len(found), table[a][b] + 1)

    def test_the_same_question_again(self):
        graph = Graph.cube(4)
        answers = [(distance(graph, 3, v), interval(graph, 3, v), shortest_path(graph, 3, v)) for v in graph]
        again = [(distance(graph, 3, v), interval(graph, 3, v), shortest_path(graph, 3, v)) for v in graph]
        self.assert_same(again, answers)
        self.assertEqual(graph, Graph.cube(4))


class WrongVertices(Case):

    def test_each_of_the_two(self):
        for graph in (SQUARE, Graph(1, []), Graph.path(40)):
            for call in (distance, interval, shortest_path):
                for value in no_vertices(graph):
                    told = {"value": value}
                    self.assert_told(InvalidNumber, told, call, graph, value, 0)
                    self.assert_told(InvalidNumber, told, call, graph, 0, value)
                    self.assert_told(InvalidNumber, told, call, graph, a=0, b=value)

    def test_the_first_is_told(self):
        for call in (distance, interval, shortest_path):
            self.assert_told(InvalidNumber, {"value": 4}, call, SQUARE, 4, -1)
            self.assert_told(InvalidNumber, {"value": None}, call, SQUARE, None, True)
            self.assert_told(InvalidNumber, {"value": [1]}, call, SQUARE, [1], "2")
            self.assert_told(InvalidNumber, {"value": False}, call, SQUARE, b=9, a=False)

    def test_nothing_changes(self):
        graph = Graph.path(3)
        for call in (distance, interval, shortest_path):
            self.assert_told(InvalidNumber, {"value": 3}, call, graph, 0, 3)
        self.assertEqual(graph, Graph.path(3))
        self.assertEqual(shortest_path(graph, 0, 2), (0, 1, 2))


if __name__ == "__main__":
    unittest.main()
