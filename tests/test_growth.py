"""Points [22] and [23]: expansions, growths, peripheral halves and growths of graphs."""

import copy
import unittest
from itertools import combinations, permutations

from helper import (
    DEEP, Case, changed_graphs, convex_subsets_in, expanded_by_hand, grown_graphs, is_convex_in, is_median_in, joined,
    large_graphs, many_median_graphs, median_graphs, mixed, no_sequences, no_subsets, other_graphs, other_large_graphs,
    outcome, renamed_by, table_of, tiny_graphs,
)
from middlewebs.clauses import Clauses
from middlewebs.errors import InvalidGrowth, InvalidSubset, TooLarge, Undefined
from middlewebs.graphs import Graph
from middlewebs.growth import Growth, expanded, grown, growth_of, is_growth_of, peripheral_halves
from middlewebs.medians import is_median_graph
from middlewebs.names import renamed
from middlewebs.parallels import parallel_classes

SQUARE = Graph(4, [(0, 1), (0, 2), (1, 3), (2, 3)])
MEDIAN = {"what": "median"}
VERTICES = {"what": "vertices"}
STAR = [(0,)] * 39
PATH = [(k,) for k in range(39)]
DOUBLED = [tuple(range(2 ** k)) for k in range(5)]


def some_growths():
    """Subsets of growths over one vertex, over convex subsets and over the whole graph."""
    return [
        [], [(0,)], [(0,), (0,)], [(0,), (1,)], [(0,), (0, 1)], [(0,), (0, 1), (0, 1, 2, 3)], DOUBLED, STAR, PATH,
        [(0,), (0, 1), (0, 2), (1,), (1, 3)], [(0,), (1,), (2,), (0, 1, 2, 3), (0, 1, 4, 5)], DOUBLED[:3] + [(7,)] * 30,
    ]


def grown_by_hand(subsets):
    graph = Graph(1, [])
    for subset in subsets:
        graph = expanded_by_hand(graph, subset)
    return graph


def peripheral_by_hand(graph):
    """The halves of all edges, in either order, all of whose vertices are joined to a vertex outside."""
    table, found = table_of(graph), set()
    for ends in graph.edges:
        for a, b in (ends, tuple(reversed(ends))):
            inner = tuple(v for v in range(graph.size) if table[a][v] < table[b][v])
            if all(any(table[v][w] == 1 for w in range(graph.size) if w not in inner) for v in inner):
                found.add(inner)
    return tuple(sorted(found))


def joins(graph, a, b):
    return (min(a, b), max(a, b)) in graph.edges


def is_growth_by_hand(graph, subsets, names):
    """Whether the grown graph becomes the graph by these names."""
    start = grown_by_hand(subsets)
    return sorted(names) == list(range(graph.size)) and start.size == graph.size and all(
        joins(start, a, b) == joins(graph, names[a], names[b]) for a, b in combinations(range(graph.size), 2)
    )


class Expanded(Case):

    def test_examples(self):
        self.assert_same(expanded(Graph(1, []), (0,)), Graph.path(2))
        self.assert_same(expanded(Graph.path(2), (0, 1)), SQUARE)
        self.assert_same(expanded(subset=(1,), graph=Graph.path(2)), Graph.path(3))
        self.assert_same(expanded(SQUARE, subset=(0, 1, 2, 3)), renamed_by(Graph.cube(3), range(8)))
        self.assert_same(expanded(Graph.cycle(5), (1, 2)).edges,
                         ((0, 1), (0, 4), (1, 2), (1, 5), (2, 3), (2, 6), (3, 4), (5, 6)))

    def test_all_convex_subsets(self):
        for graph in tiny_graphs(4) + tiny_graphs(5)[-728::17] + tuple(median_graphs()[:8] + other_graphs()[:3]):
            before = (graph.size, graph.edges)
            for subset in convex_subsets_in(table_of(graph)):
                if subset:
                    self.assert_same(expanded(graph, subset), expanded_by_hand(graph, subset))
            self.assert_same((graph.size, graph.edges), before)

    def test_what_is_no_convex_subset(self):
        for graph in tiny_graphs(4):
            table = table_of(graph)
            for many in range(graph.size + 1):
                for subset in combinations(range(graph.size), many):
                    if not subset or not is_convex_in(table, subset):
                        self.assert_refused(InvalidSubset, expanded, graph, subset)

    def test_what_is_no_subset(self):
        for graph in (SQUARE, Graph.path(3), Graph.cycle(5), Graph.path(40)):
            for value in no_subsets(graph) + [(), DEEP]:
                self.assert_refused(InvalidSubset, expanded, graph, value)
                self.assert_refused(InvalidSubset, expanded, graph=graph, subset=value)

    def test_exactly_40_vertices_and_more(self):
        self.assert_same(expanded(Graph.path(39), (38,)), Graph.path(40))
        self.assert_same(expanded(Graph.path(20), tuple(range(20))).size, 40)
        self.assert_same(expanded(Graph.path(27), tuple(range(13))).size, 40)
        for graph, subset in (
            (Graph.path(40), (0,)), (Graph.path(40), tuple(range(40))), (Graph.path(39), (0, 1)),
            (Graph.cube(5), tuple(range(32))),
            (Graph.path(21), tuple(range(1, 21))), (Graph.cycle(40), (7,)),
        ):
            self.assert_told(TooLarge, VERTICES, expanded, graph, subset)
            self.assert_told(TooLarge, VERTICES, expanded, graph=graph, subset=subset)

    def test_the_subset_is_asked_first(self):
        self.assert_refused(InvalidSubset, expanded, Graph.path(40), (0, 2))
        self.assert_refused(InvalidSubset, expanded, Graph.path(40), [0])
        self.assert_refused(InvalidSubset, expanded, Graph.path(40), (40,))
        self.assert_refused(InvalidSubset, expanded, Graph.cycle(40), tuple(range(39)))

    def test_expansions_of_median_graphs_are_median_graphs(self):
        for graph in median_graphs()[:8]:
            for subset in convex_subsets_in(table_of(graph)):
                if subset:
                    self.assertTrue(is_median_in(table_of(expanded(graph, subset))))


class Growths(Case):

    def test_attributes_by_position_and_by_name(self):
        for subsets in some_growths():
            for sequence in (list(subsets), tuple(subsets)):
                for growth in (Growth(sequence), Growth(subsets=sequence)):
                    self.assert_same(growth.subsets, tuple(subsets))
                    self.assertIn("subsets", vars(growth))

    def test_later_changes_have_no_effect(self):
        sequence = [(0,), (0, 1)]
        growth = Growth(sequence)
        sequence[1] = (0,)
        sequence.append((0,))
        self.assert_same(growth.subsets, ((0,), (0, 1)))
        self.assert_same(grown(growth), SQUARE)

    def test_equality(self):
        growths = some_growths()
        for one in growths:
            for other in growths:
                self.assertIs(Growth(one) == Growth(tuple(other)), one == other)
                self.assertIs(Growth(one) != Growth(other), one != other)
        # The same graph may grow in two ways.
        one, other = Growth([(0,), (0,)]), Growth([(0,), (1,)])
        self.assertIs(one == other, False)
        for growth in (Growth([]), Growth([(0,)])):
            for value in (None, 0, False, (), [], growth.subsets, list(growth.subsets), "growth", Graph(1, []),
                          grown(growth),
                          Clauses(0, []), ((0,),)):
                self.assertIs(growth == value, False)
                self.assertIs(value == growth, False)
                self.assertIs(growth != value, True)

    def test_what_is_no_sequence(self):
        for value in no_sequences() + [Growth([(0,)]), "((0,),)"]:
            self.assert_told(InvalidGrowth, {"place": 0}, Growth, value)
            self.assert_told(InvalidGrowth, {"place": 0}, Growth, subsets=value)

    def test_the_place_of_the_first_wrong_subset(self):
        right = [(0,), (0, 1), (0, 1), (2, 3)]
        for place in range(5):
            graph = grown_by_hand(right[:place])
            wrong = no_subsets(Graph.path(max(3, graph.size))) + [(), (graph.size,), tuple(range(graph.size + 1)), DEEP]
            if place >= 2:
                wrong += [(0, 3), (1, 2), (0, 1, 2)]
            for value in wrong:
                sequence = right[:place] + [value] + right[place:] + [None]
                before = copy.deepcopy(sequence)
                self.assert_told(InvalidGrowth, {"place": place}, Growth, sequence)
                self.assert_told(InvalidGrowth, {"place": place}, Growth, subsets=tuple(sequence))
                self.assertEqual(sequence, before)

    def test_a_sequence_in_place_of_a_subset(self):
        self.assert_told(InvalidGrowth, {"place": 0}, Growth, (0,))
        self.assert_told(InvalidGrowth, {"place": 0}, Growth, [[0]])
        self.assert_told(InvalidGrowth, {"place": 1}, Growth, [(0,), [0, 1]])
        self.assert_told(InvalidGrowth, {"place": 1}, Growth, ((0,), (False, 1)))
        self.assert_told(InvalidGrowth, {"place": 0}, Growth, ((True,),))

    def test_growths_of_39_subsets_and_more_vertices_than_40(self):
        self.assertEqual(len(Growth(STAR).subsets), 39)
        self.assertEqual(grown(Growth(STAR)).size, 40)
        self.assertEqual(grown(Growth(PATH)).size, 40)
        for subsets in (STAR, PATH):
            for further in ((0,), (39,), (40,), tuple(range(40))):
                self.assert_told(InvalidGrowth, {"place": 39}, Growth, subsets + [further])
                self.assert_told(InvalidGrowth, {"place": 39}, Growth, subsets + [further] * 20)
        eight = [tuple(range(8))]
        self.assertEqual(grown(Growth(DOUBLED + eight)).size, 40)
        for subset in (tuple(range(16)), tuple(range(32))):
            self.assert_told(InvalidGrowth, {"place": 5}, Growth, DOUBLED + [subset] + [(0,)])
        self.assert_told(InvalidGrowth, {"place": 6}, Growth, DOUBLED + eight + [(0,)])
        self.assert_told(InvalidGrowth, {"place": 6}, Growth, DOUBLED + eight + [None])


class Grown(Case):

    def test_examples(self):
        self.assert_same(grown(Growth([])), Graph(1, []))
        self.assert_same(grown(growth=Growth([(0,)])), Graph.path(2))
        self.assert_same(grown(Growth([(0,), (0, 1)])), SQUARE)
        self.assert_same(grown(Growth(STAR)), Graph(40, [(0, k) for k in range(1, 40)]))
        self.assert_same(grown(Growth(PATH)), Graph.path(40))

    def test_grown_by_hand(self):
        for subsets in some_growths():
            self.assert_same(grown(Growth(subsets)), grown_by_hand(subsets))

    def test_median_graphs_with_as_many_classes_as_subsets(self):
        for subsets in some_growths():
            graph = grown(Growth(subsets))
            self.assertTrue(is_median_in(table_of(graph)))
            self.assertEqual(len(parallel_classes(graph)), len(subsets))

    def test_the_same_question_again(self):
        one, other = Growth([(0,), (0, 1)]), Growth([(0,), (0,)])
        first, between = grown(one), grown(other)
        self.assertNotEqual(first, between)
        self.assert_same(grown(one), first)
        self.assert_same(grown(Growth(((0,), (0,)))), between)


class PeripheralHalves(Case):

    def test_examples(self):
        self.assert_same(peripheral_halves(Graph(1, [])), ())
        self.assert_same(peripheral_halves(Graph.path(2)), ((0,), (1,)))
        self.assert_same(peripheral_halves(graph=Graph.path(5)), ((0,), (4,)))
        self.assert_same(peripheral_halves(SQUARE), ((0, 1), (0, 2), (1, 3), (2, 3)))
        self.assert_same(peripheral_halves(Graph(4, [(0, 1), (0, 2), (0, 3)])), ((1,), (2,), (3,)))

    def test_by_hand(self):
        for graph in many_median_graphs():
            before = (graph.size, graph.edges)
            found = peripheral_halves(graph)
            self.assert_same(found, peripheral_by_hand(graph))
            self.assertEqual(len(found) > 0, graph.size > 1)
            self.assert_same((graph.size, graph.edges), before)

    def test_what_is_no_median_graph(self):
        for graph in other_graphs() + other_large_graphs() + [g for g in changed_graphs()[::5] if not is_median_graph(g)]:
            self.assert_told(Undefined, MEDIAN, peripheral_halves, graph)
            self.assert_told(Undefined, MEDIAN, peripheral_halves, graph=graph)

    def test_the_same_question_again(self):
        one, other = Graph.path(4), Graph(4, [(0, 1), (0, 2), (0, 3)])
        first, between = peripheral_halves(one), peripheral_halves(other)
        self.assertNotEqual(first, between)
        self.assert_same(peripheral_halves(one), first)


class GrowthOf(Case):

    def assert_growth(self, graph):
        before = (graph.size, graph.edges)
        value = growth_of(graph)
        self.assertIs(type(value), tuple)
        growth, names = value
        self.assertIsInstance(growth, Growth)
        self.assertIs(type(names), tuple)
        self.assertTrue(all(type(name) is int for name in names))
        self.assertTrue(is_growth_by_hand(graph, growth.subsets, names))
        self.assert_same(growth.subsets, Growth(list(growth.subsets)).subsets)
        self.assertIs(is_growth_of(graph, value), True)
        again = growth_of(Graph(graph.size, list(graph.edges)))
        self.assertEqual(again, value)
        self.assert_same((graph.size, graph.edges), before)

    def test_all_tiny_graphs(self):
        for graph in tiny_graphs(5):
            if is_median_in(table_of(graph)):
                self.assert_growth(graph)
            else:
                self.assert_told(Undefined, MEDIAN, growth_of, graph)

    def test_median_graphs(self):
        for graph in many_median_graphs():
            self.assert_growth(graph)

    def test_renamed_in_all_ways(self):
        for graph in (Graph(5, [(0, 1), (0, 2), (1, 3), (2, 3), (3, 4)]), Graph.path(3) * Graph.path(2)):
            for names in permutations(range(graph.size)):
                self.assert_growth(renamed(graph, names))

    def test_hypercubes_trees_grids_and_products(self):
        trees = [joined(24, [(k // 2, k + 1) for k in range(23)]),
                 joined(40, [(k * k % (k + 1), k + 1) for k in range(39)])]
        grids = [Graph.path(6) * Graph.path(6), Graph.path(13) * Graph.path(3),
                 Graph.path(3) * Graph.path(3) * Graph.path(4)]
        for graph in [Graph.cube(k) for k in range(6)] + trees + grids + [trees[0] * Graph(1, []),
                                                                          Graph.cube(4) * Graph.path(2)]:
            for step in (1, 3, 7):
                self.assert_growth(mixed(graph, step))

    def test_the_cycle_of_four(self):
        self.assert_same(growth_of(graph=SQUARE)[0].subsets, ((0,), (0, 1)))
        self.assertIs(is_growth_of(SQUARE, (Growth([(0,), (0, 1)]), (0, 1, 2, 3))), True)

    def test_the_graph_of_one_vertex(self):
        self.assertEqual(growth_of(Graph(1, [])), (Growth([]), (0,)))

    def test_what_is_no_median_graph(self):
        for graph in other_graphs() + other_large_graphs() + [g for g in changed_graphs()[::3] if not is_median_graph(g)]:
            self.assert_told(Undefined, MEDIAN, growth_of, graph)
            self.assert_told(Undefined, MEDIAN, growth_of, graph=graph)

    def test_only_median_graphs_are_grown(self):
        # All growths of at most five vertices give just the median graphs among all graphs of so many, up to renaming.
        level, found = [Graph(1, [])], [Graph(1, [])]
        while level:
            level = [
                expanded(graph, subset) for graph in level for subset in convex_subsets_in(table_of(graph))
                if subset and graph.size + len(subset) <= 5
            ]
            found += level
        named = {(graph.size, renamed_by(graph,
                                         names).edges) for graph in found for names in permutations(range(graph.size))}
        median = {(graph.size, graph.edges) for graph in tiny_graphs(5) if is_median_in(table_of(graph))}
        self.assertEqual(named, median)

    def test_the_same_question_again(self):
        one, other = mixed(Graph.cube(3), 3), Graph.path(8)
        first, between = growth_of(one), growth_of(other)
        self.assertNotEqual(first, between)
        self.assertEqual(growth_of(one), first)
        self.assertEqual(growth_of(Graph.path(8)), between)


class IsGrowthOf(Case):

    def test_all_names_of_small_graphs(self):
        for graph in (SQUARE, Graph.path(4), Graph(4, [(0, 1), (0, 2), (0, 3)]), Graph(4, [(0, 3), (1, 3), (2, 3)]),
                      Graph.cycle(3),
                      Graph(4, [(0, 1), (0, 2), (1, 2), (1, 3), (2, 3)])):
            for subsets in ([(0,), (0, 1)], [(0,), (0,), (0,)], [(0,), (1,), (2,)], [(0,), (0,), (1,)], [(0,), (1,)],
                            []):
                for names in permutations(range(graph.size)):
                    expected = is_growth_by_hand(graph, subsets, names)
                    self.assertIs(is_growth_of(graph, (Growth(subsets), names)), expected)
                    self.assertIs(is_growth_of(value=(Growth(subsets), names), graph=graph), expected)

    def test_a_growth_and_names_of_another_graph(self):
        graphs = [graph for graph in many_median_graphs() if graph.size <= 12]
        values = [growth_of(graph) for graph in graphs]
        for graph in graphs:
            for growth, names in values:
                expected = is_growth_by_hand(graph, growth.subsets, names)
                self.assertIs(is_growth_of(graph, (growth, names)), expected)
        for graph in other_graphs():
            for growth, names in values:
                self.assertIs(is_growth_of(graph, (growth, names)), False)

    def test_no_other_graph_has_one(self):
        for graph in other_large_graphs() + other_graphs():
            for subsets in (STAR, PATH, [(k,) for k in range(graph.size - 1)], DOUBLED):
                names = tuple(range(graph.size))
                self.assertIs(is_growth_of(graph, (Growth(subsets), names)), False)

    def test_large_graphs(self):
        for graph in grown_graphs() + tuple(large_graphs()[:1]):
            growth, names = growth_of(graph)
            self.assertIs(is_growth_of(graph, (growth, names)), True)
            for a, b in ((0, graph.size - 1), (0, 1), (graph.size // 2, graph.size - 1)):
                changed = list(names)
                changed[a], changed[b] = names[b], names[a]
                expected = is_growth_by_hand(graph, growth.subsets, changed)
                self.assertIs(is_growth_of(graph, (growth, tuple(changed))), expected)
            before = (graph.size, graph.edges, growth.subsets)
            self.assertIs(is_growth_of(graph, (growth, names[:-1])), False)
            self.assert_same((graph.size, graph.edges, growth.subsets), before)

    def test_any_value_at_all(self):
        growth, names = Growth([(0,), (0, 1)]), (0, 1, 2, 3)
        wrong = [
            None, True, False, 0, 1, "", "growth", (), [], DEEP, growth, names, (growth,), (names,), [growth, names],
            (names, growth), (growth, names, names), (growth, growth), (names, names), (growth, list(names)),
            (growth, names + (4,)),
            (growth, names[:3]), (growth, (0, 1, 2, 2)), (growth, (0, 1, 2, 4)), (growth, (0, 1, 3, 2, 2)),
            (growth, (False, True, 2, 3)),
            (growth, (0, True, 2, 3)), (growth, ("0", "1", "2", "3")), (growth, "0123"), (growth, None),
            (growth, ((0, 1, 2, 3),)),
            (growth, (0, 1, 2, None)), (growth, (0, 1, 2, [3])), (growth, (0, 1, 2, -1)), (growth, DEEP),
            (growth, SQUARE),
            (growth.subsets, names), (list(growth.subsets), names), (SQUARE, names), (Growth([]), names),
            (Growth([(0,)]), names),
            (Growth([(0,), (0,), (0,)]), names), (Clauses(0, []), names), ((growth,), names), ([growth], names), SQUARE,
            (growth, (0, 3, 1, 2)), (growth, (1, 0, 2, 3)), (None, names), (True, names), (0, 0), ("growth", names),
            (growth, (0,) * 1500),
        ]
        for value in wrong:
            self.assertIs(is_growth_of(SQUARE, value), False, repr(value))
        for right in (names, (0, 2, 1, 3), (3, 1, 2, 0), (1, 3, 0, 2)):
            self.assertIs(is_growth_of(SQUARE, (growth, right)), True)
        one = Graph(1, [])
        self.assertIs(is_growth_of(one, (Growth([]), (0,))), True)
        for value in ((Growth([]), ()), (Growth([]), (1,)), (Growth([]), (False,)), (Growth([]), [0]),
                      (Growth([(0,)]), (0,)),
                      [Growth([]), (0,)], (Growth([]), (0,), (0,)), Growth([])):
            self.assertIs(is_growth_of(one, value), False)

    def test_the_same_question_again(self):
        one, other = (Growth([(0,), (0,)]), (1, 0, 2)), (Growth([(0,), (1,)]), (1, 0, 2))
        self.assertEqual(outcome(is_growth_of, Graph.path(3), one), ("returned", True))
        self.assertEqual(outcome(is_growth_of, Graph.path(3), other), ("returned", False))
        self.assertEqual(outcome(is_growth_of, Graph.path(3), one), ("returned", True))


if __name__ == "__main__":
    unittest.main()
