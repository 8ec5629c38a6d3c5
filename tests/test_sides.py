"""Point [11]: sides and odd cycles."""

import unittest
from itertools import product

from helper import (
    Case, changed_graphs, complete_pair, joined, many_median_graphs, mixed, other_graphs, other_large_graphs,
    table_of, tiny_graphs,
)
from middlewebs.errors import Undefined
from middlewebs.graphs import Graph
from middlewebs.sides import odd_cycle, sides


def sides_in(graph):
    """The sides, or None, by painting one neighbor after the other."""
    bits = {0: 0}
    while len(bits) < graph.size:
        for a, b in graph.edges:
            for one, other in ((a, b), (b, a)):
                if one in bits:
                    bits.setdefault(other, 1 - bits[one])
    if any(bits[a] == bits[b] for a, b in graph.edges):
        return None
    return tuple(bits[v] for v in range(graph.size))


class Sides(Case):

    def assert_odd_cycle(self, graph, cycle):
        self.assertIs(type(cycle), tuple)
        self.assertTrue(all(type(vertex) is int and 0 <= vertex < graph.size for vertex in cycle))
        self.assertGreaterEqual(len(cycle), 3)
        self.assertEqual(len(cycle) % 2, 1)
        self.assertEqual(len(set(cycle)), len(cycle))
        for a, b in zip(cycle, cycle[1:] + cycle[:1]):
            self.assertIn((min(a, b), max(a, b)), graph.edges)

    def assert_exactly_one(self, graph):
        """Just one of the two is defined, and it is what it is said to be."""
        before = (graph.size, graph.edges)
        expected = sides_in(graph)
        if expected is None:
            self.assert_told(Undefined, {"what": "sides"}, sides, graph)
            self.assert_odd_cycle(graph, odd_cycle(graph))
            self.assert_same(odd_cycle(graph), odd_cycle(Graph(graph.size, graph.edges)))
        else:
            self.assert_told(Undefined, {"what": "cycle"}, odd_cycle, graph)
            self.assert_same(sides(graph), expected)
        self.assert_same((graph.size, graph.edges), before)
        return expected

    def test_small_graphs(self):
        self.assert_same(sides(Graph(1, [])), (0,))
        self.assert_same(sides(Graph(2, [(0, 1)])), (0, 1))
        self.assert_same(sides(graph=Graph.cycle(4)), (0, 1, 0, 1))
        self.assert_same(sides(Graph(3, [(0, 2), (1, 2)])), (0, 0, 1))
        self.assertEqual(sorted(odd_cycle(graph=Graph.cycle(3))), [0, 1, 2])

    def test_tiny_graphs(self):
        found = [self.assert_exactly_one(graph) for graph in tiny_graphs(5)]
        self.assertIn(None, found)
        self.assertGreater(len([bits for bits in found if bits]), 100)

    def test_all_bits_that_there_are(self):
        for graph in tiny_graphs(4):
            wanted = [
                bits for bits in product((0, 1), repeat=graph.size)
                if bits[0] == 0 and all(bits[a] != bits[b] for a, b in graph.edges)
            ]
            expected = sides_in(graph)
            self.assertEqual(wanted, [] if expected is None else [expected])

    def test_median_graphs_have_sides(self):
        for graph in many_median_graphs():
            self.assertIsNotNone(self.assert_exactly_one(graph))

    def test_other_graphs(self):
        for graph in other_graphs() + other_large_graphs() + changed_graphs():
            for same in (graph, mixed(graph, 3)):
                self.assert_exactly_one(same)

    def test_odd_and_even_cycles(self):
        for number in range(3, 41):
            for graph in (Graph.cycle(number), mixed(Graph.cycle(number), 5)):
                found = self.assert_exactly_one(graph)
                self.assertEqual(found is None, number % 2 == 1)
                if number % 2 == 1:
                    self.assertEqual(len(odd_cycle(graph)), number)

    def test_odd_cycles_far_from_vertex_0(self):
        # A long tail leads to the cycle; no vertex of the tail may be in the answer.
        for many in (3, 5, 7, 9):
            tail = 40 - many
            round_it = [(tail + k, tail + (k + 1) % many) for k in range(many)]
            graph = joined(40, [(k, k + 1) for k in range(tail)] + round_it)
            self.assertIsNone(self.assert_exactly_one(graph))
            self.assertEqual(set(odd_cycle(graph)), set(range(tail, 40)))

    def test_forty_vertices(self):
        self.assert_same(sides(complete_pair(20, 20)), (0,) * 20 + (1,) * 20)
        self.assert_same(sides(Graph.path(40)), (0, 1) * 20)
        self.assertEqual(len(odd_cycle(Graph.cycle(39))), 39)

    def test_sides_are_told_by_distances_from_vertex_0(self):
        for graph in many_median_graphs():
            self.assert_same(sides(graph), tuple(steps % 2 for steps in table_of(graph)[0]))

    def test_the_same_question_again(self):
        for _ in range(3):
            self.assert_same(sides(Graph.cycle(6)), (0, 1, 0, 1, 0, 1))
            self.assert_told(Undefined, {"what": "sides"}, sides, Graph.cycle(7))
            self.assert_told(Undefined, {"what": "cycle"}, odd_cycle, Graph.cycle(6))
            self.assert_odd_cycle(Graph.cycle(7), odd_cycle(Graph.cycle(7)))


if __name__ == "__main__":
    unittest.main()
