"""Point [27], and what [29] says of the center: totals, least vertices and the center."""

import random
import unittest
from itertools import permutations

from helper import (
    DEEP, Case, all_graphs, grown_graphs, is_median_in, joined, large_graphs, many_median_graphs, median_graphs, mixed,
    no_vertices, other_graphs, table_of, tiny_graphs,
)
from middlewebs.errors import InvalidNumber, InvalidWeights
from middlewebs.graphs import Graph
from middlewebs.names import are_names, names_to, renamed
from middlewebs.totals import center, least_vertices, total

SQUARE = Graph(4, [(0, 1), (0, 2), (1, 3), (2, 3)])


def totals_by_hand(table, weights):
    return [sum(weights[v] * table[v][w] for v in range(len(table))) for w in range(len(table))]


def least_by_hand(table, weights):
    totals = totals_by_hand(table, weights)
    return tuple(v for v in range(len(table)) if totals[v] == min(totals))


def by_majority(table, weights):
    """The vertices that are in each half whose weights add up to more than half of all weights."""
    size = range(len(table))
    halves = [[v for v in size if table[a][v] < table[b][v]] for a in size for b in size if table[a][b] == 1]
    heavy = [inner for inner in halves if 2 * sum(weights[v] for v in inner) > sum(weights)]
    return tuple(v for v in size if all(v in inner for inner in heavy))


def some_weights(size, seed):
    """Weights of many kinds for so many vertices."""
    picked = random.Random(seed)
    one = picked.randrange(size)
    return [
        (0,) * size, (1,) * size, (40,) * size, tuple(int(v == one) for v in range(size)),
        tuple(40 * int(v == one) for v in range(size)), tuple(v % 41 for v in range(size)),
        *[tuple(picked.randint(0, most) for _ in range(size)) for most in (1, 1, 2, 5, 40, 40)],
        *[tuple(picked.randint(0, 40) * picked.randint(0, 1) for _ in range(size)) for _ in range(3)],
    ]


def no_weights(size):
    """Values of all kinds that are no weights of a graph of so many vertices, two or more."""
    right = (1,) * size
    members = [-1, 41, 42, 10 ** 30, -(10 ** 30), True, False, None, "", "1", (), (1,), [], [1], Graph(1, [])]
    wrong = [right[:k] + (member,) + right[k + 1:] for member in members for k in (0, size - 1)]
    return wrong + [
        None, True, False, 0, 1, 40, "", "1" * size, (), (1,), right[1:], right + (1,), right * 2, list(right), [],
        (right,),
        [right], (right,) * size, (True,) * size, DEEP, SQUARE, Graph.path(size), (1,) * 1500,
    ]


class Total(Case):

    def test_examples(self):
        self.assert_same(total(SQUARE, (1, 1, 1, 1), 0), 4)
        self.assert_same(total(SQUARE, (0, 0, 0, 40), 0), 80)
        self.assert_same(total(vertex=2, graph=Graph.path(4), weights=(1, 2, 3, 4)), 8)
        self.assert_same(total(Graph(1, []), (7,), 0), 0)
        self.assert_same(total(Graph.path(40), (40,) * 40, 0), 40 * 39 * 20)
        self.assert_same(total(Graph.path(40), weights=(0,) * 40, vertex=39), 0)

    def test_by_hand(self):
        for seed, graph in enumerate(all_graphs()):
            table = table_of(graph)
            before = (graph.size, graph.edges)
            for weights in some_weights(graph.size, seed):
                found = totals_by_hand(table, weights)
                for vertex in graph:
                    self.assert_same(total(graph, weights, vertex), found[vertex])
            self.assert_same((graph.size, graph.edges), before)

    def test_what_are_no_weights(self):
        for graph in (SQUARE, Graph.path(2), Graph.cycle(5), Graph.path(40)):
            for value in no_weights(graph.size):
                for call in (lambda weights: total(graph, weights, 0), lambda weights: least_vertices(graph, weights)):
                    self.assert_refused(InvalidWeights, call, value)
                self.assert_told(InvalidWeights, {"value": value}, total, vertex=1, weights=value, graph=graph)
                self.assert_told(InvalidWeights, {"value": value}, least_vertices, weights=value, graph=graph)
        for value in ((), (1, 1), (True,), [1], 1, None, (41,), (-1,), ("1",), ((1,),)):
            self.assert_told(InvalidWeights, {"value": value}, total, Graph(1, []), value, 0)
            self.assert_refused(InvalidWeights, least_vertices, Graph(1, []), value)

    def test_what_is_no_vertex(self):
        for graph in (SQUARE, Graph(1, []), Graph.cycle(5), Graph.path(40)):
            for value in no_vertices(graph):
                self.assert_refused(InvalidNumber, total, graph, (1,) * graph.size, value)
                self.assert_refused(InvalidNumber, total, graph=graph, weights=(0,) * graph.size, vertex=value)

    def test_weights_are_asked_first(self):
        for value in no_weights(4)[::3]:
            for vertex in (-1, 4, True, None, "0"):
                self.assert_told(InvalidWeights, {"value": value}, total, SQUARE, value, vertex)

    def test_the_same_question_again(self):
        first, between = total(SQUARE, (1, 2, 3, 4), 0), total(Graph.path(4), (1, 2, 3, 4), 0)
        self.assertNotEqual(first, between)
        self.assert_same(total(SQUARE, (1, 2, 3, 4), 0), first)
        self.assert_same(total(Graph.path(4), (1, 2, 3, 4), 0), between)


class LeastVertices(Case):

    def test_examples(self):
        self.assert_same(least_vertices(SQUARE, (1, 1, 1, 1)), (0, 1, 2, 3))
        self.assert_same(least_vertices(SQUARE, (2, 1, 1, 1)), (0,))
        self.assert_same(least_vertices(weights=(1, 0, 0, 1), graph=Graph.path(4)), (0, 1, 2, 3))
        self.assert_same(least_vertices(Graph.path(4), (1, 1, 0, 1)), (1,))
        self.assert_same(least_vertices(Graph.cycle(5), weights=(1, 0, 0, 0, 0)), (0,))
        self.assert_same(least_vertices(Graph(1, []), (0,)), (0,))

    def test_by_hand(self):
        for seed, graph in enumerate(all_graphs()):
            table = table_of(graph)
            for weights in some_weights(graph.size, seed + 100):
                self.assert_same(least_vertices(graph, weights), least_by_hand(table, weights))

    def test_weights_that_are_all_0(self):
        for graph in all_graphs():
            self.assert_same(least_vertices(graph, (0,) * graph.size), tuple(graph))

    def test_told_by_majority_in_median_graphs(self):
        odd = 0
        for seed, graph in enumerate(many_median_graphs()):
            table = table_of(graph)
            for weights in some_weights(graph.size, seed + 200):
                found = least_vertices(graph, weights)
                self.assert_same(found, by_majority(table, weights))
                if sum(weights) % 2 == 1:
                    odd += 1
                    self.assertEqual(len(found), 1)
        self.assertGreater(odd, 100)

    def test_tiny_median_graphs(self):
        for graph in tiny_graphs(4):
            table = table_of(graph)
            if is_median_in(table):
                for weights in some_weights(graph.size, graph.size):
                    self.assert_same(least_vertices(graph, weights), by_majority(table, weights))

    def test_the_same_question_again(self):
        first, between = least_vertices(SQUARE, (3, 1, 1, 1)), least_vertices(Graph.path(4), (3, 1, 1, 1))
        self.assertNotEqual(first, between)
        self.assertNotEqual(least_vertices(SQUARE, (1, 3, 1, 1)), first)
        self.assert_same(least_vertices(SQUARE, (3, 1, 1, 1)), first)


class Center(Case):

    def test_examples(self):
        self.assert_same(center(Graph(1, [])), (0,))
        self.assert_same(center(graph=Graph.path(4)), (1, 2))
        self.assert_same(center(Graph.path(40)), (19, 20))
        self.assert_same(center(Graph.path(39)), (19,))
        self.assert_same(center(Graph.cube(5)), tuple(range(32)))
        self.assert_same(center(Graph.cycle(5)), (0, 1, 2, 3, 4))
        self.assert_same(center(Graph(40, [(0, k) for k in range(1, 40)])), (0,))

    def test_by_hand(self):
        for graph in all_graphs() + list(grown_graphs()):
            before = (graph.size, graph.edges)
            self.assert_same(center(graph), least_by_hand(table_of(graph), (1,) * graph.size))
            self.assert_same(center(graph), least_vertices(graph, (1,) * graph.size))
            self.assert_same((graph.size, graph.edges), before)

    def test_all_names_to_itself_keep_the_center(self):
        for graph in [graph for graph in median_graphs() if graph.size <= 7] + [Graph.path(2) * Graph.path(3)]:
            inner = set(center(graph))
            for names in permutations(range(graph.size)):
                if are_names(graph, graph, names):
                    self.assertEqual({names[vertex] for vertex in inner}, inner)

    def test_names_take_a_center_to_a_center(self):
        for graph in many_median_graphs() + other_graphs():
            for step in (3, 5):
                other = mixed(graph, step)
                if graph.size <= 24:
                    names = names_to(graph, other)
                    self.assertEqual({names[vertex] for vertex in center(graph)}, set(center(other)))
            names = tuple(reversed(range(graph.size)))
            self.assert_same(center(renamed(graph, names)), tuple(sorted(names[vertex] for vertex in center(graph))))

    def test_totals_are_renamed_along(self):
        for seed, graph in enumerate(median_graphs() + large_graphs()):
            names = tuple(reversed(range(graph.size)))
            for weights in some_weights(graph.size, seed):
                turned = tuple(reversed(weights))
                other = renamed(graph, names)
                self.assertEqual(total(other, turned, names[0]), total(graph, weights, 0))
                self.assertEqual(least_vertices(other, turned),
                                 tuple(sorted(names[vertex] for vertex in least_vertices(graph, weights))))

    def test_the_same_question_again(self):
        one, other = Graph.path(6), joined(6, [(0, k) for k in range(1, 6)])
        first, between = center(one), center(other)
        self.assertNotEqual(first, between)
        self.assert_same(center(one), first)
        self.assert_same(center(Graph(6, list(other.edges))), between)


if __name__ == "__main__":
    unittest.main()
