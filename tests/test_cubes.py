"""Point [28]: the cubes of a median graph."""

import unittest
from itertools import combinations, permutations
from math import comb

from helper import (
    Case, changed_graphs, grown_graphs, joined, many_median_graphs, median_graphs, mixed, other_graphs,
    other_large_graphs, table_of,
)
from middlewebs.cubes import cube_counts, cubes
from middlewebs.errors import Undefined
from middlewebs.graphs import Graph
from middlewebs.growth import expanded, peripheral_halves
from middlewebs.medians import is_median_graph
from middlewebs.names import renamed
from middlewebs.parallels import parallel_classes
from middlewebs.totals import center

SQUARE = Graph(4, [(0, 1), (0, 2), (1, 3), (2, 3)])
MEDIAN = {"what": "median"}


def are_cube(graph, subset):
    """Whether the vertices, with the edges between them, are a hypercube: each gets a word that tells its neighbors."""
    near = {v: [w for w in subset if (min(v, w), max(v, w)) in graph.edges] for v in subset}
    first = subset[0]
    letters = near[first]
    if len(subset) != 2 ** len(letters):
        return False
    words = {first: frozenset()}
    queue = [first]
    for v in queue:
        for w in near[v]:
            if w not in words:
                # In a hypercube a vertex has the letters of all its neighbors that are nearer to the first one.
                before = [words[x] for x in near[w] if x in words and len(words[x]) == len(words[v])]
                words[w] = frozenset([w]) if v == first else frozenset().union(*before)
                queue.append(w)
    if len(words) != len(subset) or len(set(words.values())) != len(subset):
        return False
    return all((w in near[v]) == (len(words[v] ^ words[w]) == 1) for v, w in combinations(subset, 2))


def cubes_by_hand(graph):
    """All cubes, by going through all subsets of 1, 2, 4 .. vertices that are near enough to one another."""
    table, found = table_of(graph), []
    for many in range(6):
        for first in range(graph.size):
            near = [v for v in range(first + 1, graph.size) if table[first][v] <= many]
            for rest in combinations(near, 2 ** many - 1):
                if are_cube(graph, (first, *rest)):
                    found.append((first, *rest))
    return tuple(found)


def small_graphs():
    tail = Graph(9, [*Graph.cube(3).edges, (7, 8)])
    return [graph for graph in many_median_graphs() if graph.size <= 10] + [tail, mixed(tail, 4),
                                                                            Graph.path(3) * SQUARE]


class Cubes(Case):

    def test_examples(self):
        self.assert_same(cubes(Graph(1, [])), ((0,),))
        self.assert_same(cubes(Graph.path(3)), ((0,), (1,), (2,), (0, 1), (1, 2)))
        self.assert_same(cubes(graph=SQUARE), ((0,), (1,), (2,), (3,), (0, 1), (0, 2), (1, 3), (2, 3), (0, 1, 2, 3)))
        self.assert_same(cubes(Graph.cycle(4))[-1], (0, 1, 2, 3))

    def test_by_hand(self):
        for graph in small_graphs():
            before = (graph.size, graph.edges)
            self.assert_same(cubes(graph), cubes_by_hand(graph))
            self.assert_same((graph.size, graph.edges), before)

    def test_vertices_edges_and_cycles_of_four(self):
        for graph in many_median_graphs():
            found = cubes(graph)
            self.assert_same(found[:graph.size], tuple((vertex,) for vertex in graph))
            self.assert_same(tuple(cube for cube in found if len(cube) == 2), graph.edges)
            squares = {
                tuple(sorted((a, b, c, d))) for b, d in combinations(graph, 2) for a, c in
                combinations([v for v in graph if (v, b) in graph and (v, d) in graph], 2)
            }
            self.assert_same(tuple(cube for cube in found if len(cube) == 4), tuple(sorted(squares)))
            self.assert_same(found, tuple(sorted(set(found), key=lambda cube: (len(cube), cube))))
            self.assertTrue(all(are_cube(graph, cube) for cube in found))

    def test_all_names_of_a_small_graph(self):
        graph = Graph(6, [(0, 1), (0, 2), (1, 3), (2, 3), (3, 4), (4, 5)])
        for names in permutations(range(6)):
            found = [tuple(sorted(names[v] for v in cube)) for cube in cubes(graph)]
            self.assert_same(cubes(renamed(graph, names)), tuple(sorted(found, key=lambda cube: (len(cube), cube))))

    def test_the_center_is_a_cube(self):
        for graph in many_median_graphs():
            self.assertIn(center(graph), cubes(graph))

    def test_what_is_no_median_graph(self):
        wrong = [graph for graph in changed_graphs()[::5] if not is_median_graph(graph)]
        for graph in other_graphs() + other_large_graphs() + wrong:
            for call in (cubes, cube_counts):
                self.assert_told(Undefined, MEDIAN, call, graph)
                self.assert_told(Undefined, MEDIAN, call, graph=graph)

    def test_the_same_question_again(self):
        one, other = SQUARE, Graph.path(4)
        first, between = cubes(one), cubes(other)
        self.assertNotEqual(first, between)
        self.assert_same(cubes(Graph(4, list(one.edges))), first)
        self.assert_same(cubes(other), between)


class CubeCounts(Case):

    def test_examples(self):
        self.assert_same(cube_counts(Graph(1, [])), (1,))
        self.assert_same(cube_counts(graph=SQUARE), (4, 4, 1))
        self.assert_same(cube_counts(Graph.path(40)), (40, 39))
        self.assert_same(cube_counts(Graph.path(3) * Graph.path(3)), (9, 12, 4))
        self.assert_same(cube_counts(Graph.cube(5)), (32, 80, 80, 40, 10, 1))

    def test_hypercubes_trees_and_grids(self):
        for d in range(6):
            self.assert_same(cube_counts(Graph.cube(d)), tuple(comb(d, k) * 2 ** (d - k) for k in range(d + 1)))
        for graph in (joined(40, [(k // 3, k + 1) for k in range(39)]),
                      joined(17, [(k * k % (k + 1), k + 1) for k in range(16)])):
            self.assert_same(cube_counts(mixed(graph, 3)), (graph.size, graph.size - 1))
        for a, b in ((2, 20), (5, 8), (6, 6), (13, 3)):
            counts = (a * b, (a - 1) * b + a * (b - 1), (a - 1) * (b - 1))
            self.assert_same(cube_counts(mixed(Graph.path(a) * Graph.path(b), 7)), counts)

    def test_products(self):
        # The cubes of a product are just the products of cubes.
        graphs = [graph for graph in median_graphs() if graph.size <= 8]
        for one in graphs:
            for other in graphs:
                if one.size * other.size <= 40:
                    first, second = cube_counts(one), cube_counts(other)
                    many = range(len(first) + len(second) - 1)
                    counts = [sum(first[k] * second[n - k] for k in range(n + 1) if k < len(first) and n - k < len(second)) for n in many]
                    self.assert_same(cube_counts(one * other), tuple(counts))

    def test_the_numbers_of_the_cubes(self):
        for graph in many_median_graphs():
            sizes = [len(cube) for cube in cubes(graph)]
            counts = cube_counts(graph)
            self.assert_same(counts, tuple(sizes.count(2 ** d) for d in range(len(counts))))
            self.assertEqual(sum(counts), len(sizes))
            self.assertGreater(counts[-1], 0)

    def test_an_expansion_adds_the_cubes_of_the_subset_twice(self):
        for graph in median_graphs()[:9]:
            for inner in peripheral_halves(graph):
                counts, more = list(cube_counts(graph)) + [0], list(cube_counts(expanded(graph, inner)))
                within = [sum(set(cube) <= set(inner) for cube in cubes(graph) if len(cube) == 2 ** d) for d in range(len(counts))]
                expected = [counts[d] + within[d] + (within[d - 1] if d else 0) for d in range(len(counts))]
                self.assertEqual(more, [count for d, count in enumerate(expected) if d < len(more)])
                self.assertEqual(sum(more), sum(expected))

    def test_signs_classes_and_cubes_of_dimension_3(self):
        flat = 0
        for graph in many_median_graphs():
            counts = cube_counts(graph)
            self.assertEqual(sum((-1) ** d * count for d, count in enumerate(counts)), 1)
            less = 2 * graph.size - len(graph.edges) - len(parallel_classes(graph))
            self.assertLessEqual(less, 2)
            self.assertEqual(less == 2, len(counts) < 4)
            flat += less == 2
        self.assertGreater(flat, 10)
        self.assertGreater(len(many_median_graphs()) - flat, 5)

    def test_the_same_question_again(self):
        for one, other in ((SQUARE, Graph.path(4)), (grown_graphs()[4], grown_graphs()[5])):
            first, between = cube_counts(one), cube_counts(other)
            self.assertNotEqual(first, between)
            self.assert_same(cube_counts(one), first)
            self.assert_same(cube_counts(other), between)


if __name__ == "__main__":
    unittest.main()
