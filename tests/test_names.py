"""Point [29]: names from one graph to another."""

import unittest
from itertools import combinations, permutations, product

from helper import (
    DEEP, Case, complete_pair, connected, grown_graphs, joined, many_median_graphs, median_graphs, mixed, other_graphs,
    outcome, renamed_by, table_of, tiny_graphs,
)
from middlewebs.errors import InvalidNames, Undefined
from middlewebs.graphs import Graph
from middlewebs.names import are_names, names_to, renamed
from middlewebs.words import Words

SQUARE = Graph(4, [(0, 1), (0, 2), (1, 3), (2, 3)])
BENT = Graph(4, [(0, 2), (1, 2), (1, 3)])
NO_NAMES = {"what": "names"}


def names_by_hand(one, other):
    """All names from one graph of few vertices to another."""
    return [
        names for names in permutations(range(one.size))
        if one.size == other.size
        and all(((a, b) in one.edges) == (tuple(sorted((names[a], names[b]))) in other.edges)
                for a, b in combinations(range(one.size), 2))
    ]


def all_names(graph):
    """All names from a graph to itself, vertex by vertex."""
    found = [()]
    for a in graph:
        found = [
            names + (name,) for names in found for name in graph
            if name not in names and all(((a, b) in graph) == ((name, names[b]) in graph) for b in range(a))
        ]
    return found


def first_by_hand(one, other):
    """The first names that keep all distances, found vertex by vertex, or None if that takes too many steps."""
    near, far = table_of(one), table_of(other)
    names = [-1]
    for _ in range(20000):
        a = len(names) - 1
        names[a] += 1
        if names[a] == other.size:
            names.pop()
        elif all(names[b] != names[a] and near[a][b] == far[names[a]][names[b]] for b in range(a)):
            if a == one.size - 1:
                return tuple(names)
            names.append(-1)
    return None


def without(size, edges):
    """The graph in which just the other pairs are joined."""
    left_out = {tuple(sorted(edge)) for edge in edges}
    return Graph(size, [pair for pair in combinations(range(size), 2) if pair not in left_out])


def cycles(*lengths):
    """The edges of cycles of these lengths, one behind the other."""
    edges, at = [], 0
    for length in lengths:
        edges += [(at + k, at + (k + 1) % length) for k in range(length)]
        at += length
    return edges


def rows_and_columns():
    """The 4 by 4 places, joined in rows and in columns."""
    places = list(product(range(4), repeat=2))
    pairs = [(a, b) for a, b in combinations(range(16), 2) if (places[a][0] == places[b][0]) != (places[a][1] == places[b][1])]
    return Graph(16, pairs)


def turned_squares():
    """The 4 by 4 places, joined along three directions; any two have as many common neighbors as in the last one."""
    steps = ((0, 1), (1, 0), (1, 1))
    return joined(16, [(4 * a + b, 4 * ((a + x) % 4) + (b + y) % 4) for a, b in product(range(4), repeat=2) for x, y in steps])


def beside(one, other):
    """Two graphs, each vertex of the first joined to each of the other."""
    edges = [*one.edges] + [(a + one.size, b + one.size) for a, b in other.edges]
    return joined(one.size + other.size, edges + [(a, b + one.size) for a in one for b in other])


def below_one_vertex(one, other):
    """Two graphs and, ahead of them, a vertex joined to all of theirs."""
    edges = [(a + 1, b + 1) for a, b in one.edges]
    edges += [(a + 1 + one.size, b + 1 + one.size) for a, b in other.edges]
    size = 1 + one.size + other.size
    return joined(size, edges + [(0, k) for k in range(1, size)])


def large_graphs():
    """Graphs of 24 vertices with many names to themselves and with few."""
    complete = Graph(24, list(combinations(range(24), 2)))
    tree = Graph(24, sorted((k * k % 7 % (k + 1), k + 1) for k in range(23)))
    return [
        complete, Graph(24, [(0, k) for k in range(1, 24)]), Graph.cycle(24), Graph.path(24), complete_pair(12, 12),
        Graph.path(6) * Graph.path(4), Graph.cube(3) * Graph.cycle(3), Graph.cycle(6) * Graph.cycle(4),
        without(24, cycles(*[3] * 8)), without(24, cycles(6, 6, 6, 6)), without(24, [(k, k + 12) for k in range(12)]),
        beside(Graph.cube(3), rows_and_columns()), tree, beside(Graph.path(8), turned_squares()), complete_pair(2, 22),
    ]


def pairs_without_names():
    """Pairs of graphs of as many vertices and edges that are not the same up to renaming."""
    many = [*range(8)]
    eight = Graph(8, list(combinations(many, 2)))
    prism, ring = Graph.cycle(12) * Graph.path(2), joined(24, cycles(24) + [(k, (k + 12) % 24) for k in range(12)])
    return [
        (Graph(24, [(0, k) for k in range(1, 24)]), Graph.path(24)),
        (without(24, cycles(*[3] * 8)), without(24, cycles(6, 6, 6, 6))),
        (without(24, cycles(3, 3, 3, 3, 3, 3, 6)), without(24, cycles(3, 3, 3, 3, 6, 6))),
        (without(24, cycles(4, 4, 4, 4, 4, 4)), without(24, cycles(4, 4, 4, 4, 8))),
        (rows_and_columns(), turned_squares()),
        (beside(eight, rows_and_columns()), beside(eight, turned_squares())),
        (beside(SQUARE * Graph.path(2), rows_and_columns()), beside(Graph.cube(3), turned_squares())),
        (prism, ring),
        (Graph.cycle(6), joined(6, cycles(3) + [(0, 3), (1, 4), (2, 5)])),
        (Graph(24, sorted((k // 2, k + 1) for k in range(23))), Graph(24, sorted((k // 3, k + 1) for k in range(23)))),
        (joined(24, cycles(20) + [(k, k + 20) for k in range(4)]), joined(24, cycles(20) + [(5 * k, k + 20) for k in range(4)])),
    ]


class AreNames(Case):

    def test_examples(self):
        self.assertIs(are_names(Graph.path(4), BENT, (0, 2, 1, 3)), True)
        self.assertIs(are_names(Graph.path(4), BENT, (3, 1, 2, 0)), True)
        self.assertIs(are_names(Graph.path(4), BENT, (0, 1, 2, 3)), False)
        self.assertIs(are_names(BENT, Graph.path(4), (0, 2, 1, 3)), True)
        self.assertIs(are_names(value=(0,), other=Graph(1, []), one=Graph(1, [])), True)

    def test_all_orders_of_tiny_graphs(self):
        graphs = tiny_graphs(4)
        for one, other in product(graphs[::3] + graphs[:8], graphs[::5] + graphs[:8]):
            right = names_by_hand(one, other)
            for names in permutations(range(one.size)):
                self.assertIs(are_names(one, other, names), names in right)

    def test_a_further_edge_is_seen(self):
        less, more = Graph.path(4), Graph.cycle(4)
        for names in permutations(range(4)):
            self.assertIs(are_names(less, more, names), False)
            self.assertIs(are_names(more, less, names), False)

    def test_other_sizes(self):
        for names in ((0, 1, 2), (0, 1, 2, 3), (0, 1), ()):
            self.assertIs(are_names(Graph.path(3), Graph.path(4), names), False)
            self.assertIs(are_names(Graph.path(4), Graph.path(3), names), False)

    def test_large_graphs(self):
        for graph in large_graphs() + [Graph.path(40), Graph.cube(5)]:
            names = tuple((5 * v + 3) % graph.size for v in graph) if graph.size % 5 else tuple(reversed(range(graph.size)))
            other = renamed_by(graph, names)
            before = (graph.size, graph.edges)
            self.assertIs(are_names(graph, other, names), True)
            changed = (names[1], names[0]) + names[2:]
            edges = [tuple(sorted((changed[a], changed[b]))) for a, b in graph.edges]
            self.assertIs(are_names(graph, other, changed), sorted(edges) == list(other.edges))
            self.assert_same((graph.size, graph.edges), before)

    def test_any_value_at_all(self):
        wrong = [
            None, True, False, 0, 1, 10 ** 30, "", "0123", [0, 1, 2, 3], [], (), (0,), (0, 1, 2), (0, 1, 2, 3, 4),
            (0, 1, 2, 2), (0, 0, 0, 0), (0, 1, 2, 4), (-1, 0, 1, 2), (0, 1, 2, 10 ** 30), (False, True, 2, 3),
            (0, True, 2, 3), (0, 1, 2, None), ("0", "1", "2", "3"), (0, 1, 2, "3"), ((0,), (1,), (2,), (3,)), (0, 1, 2, [3]),
            (0, 1, 2, (3,)), ((0, 1, 2, 3),), SQUARE, Words(1, [(0,)]), (SQUARE,) * 4, DEEP, (0, 1, 2, DEEP), (0,) * 1500,
            (0, 1, 2, 3) * 2, (3, 2, 1), (0, 1, 3, 2, 4),
        ]
        for value in wrong:
            for graph in (SQUARE, BENT):
                self.assertIs(are_names(graph, graph, value), False, repr(value))
            self.assertIs(are_names(value=value, one=SQUARE, other=Graph.path(5)), False)
            self.assertIs(are_names(Graph.path(2), Graph.path(2), value), False)
        for value in ((False,), [0], 0, None, (1,), (0, 0), ((0,),), ()):
            self.assertIs(are_names(Graph(1, []), Graph(1, []), value), False)


class NamesTo(Case):

    def assert_first(self, one, other):
        names = names_to(one, other)
        self.assertIs(are_names(one, other, names), True)
        self.assert_same(names_to(Graph(one.size, one.edges), other), names)
        by_hand = first_by_hand(one, other)
        if by_hand is not None:
            self.assert_same(names, by_hand)
        return by_hand

    def test_tiny_graphs(self):
        graphs = tiny_graphs(4) + tiny_graphs(5)[-728::40]
        for one, other in product(graphs, repeat=2):
            if one.size == other.size and len(one.edges) == len(other.edges):
                right = names_by_hand(one, other)
                if right:
                    self.assert_same(names_to(one, other), right[0])
                else:
                    self.assert_told(Undefined, NO_NAMES, names_to, one, other)

    def test_the_first_of_all_names(self):
        for graph in median_graphs() + other_graphs():
            found = all_names(graph)
            self.assert_same(names_to(graph, graph), tuple(range(graph.size)))
            self.assertEqual(min(found), tuple(range(graph.size)))
            for step in (2, 3, 5):
                other = mixed(graph, step)
                to_other = names_to(graph, other)
                self.assertIs(are_names(graph, other, to_other), True)
                # All names to the other graph are those to the graph itself, renamed.
                self.assert_same(to_other, min(tuple(to_other[name] for name in names) for names in found))

    def test_other_sizes_and_other_numbers_of_edges(self):
        for one, other in combinations([Graph(1, []), *[Graph.path(n) for n in (2, 4, 24)], SQUARE, Graph.cycle(24)], 2):
            self.assert_told(Undefined, NO_NAMES, names_to, one, other)
            self.assert_told(Undefined, NO_NAMES, names_to, one=other, other=one)

    def test_examples(self):
        self.assert_same(names_to(Graph(1, []), Graph(1, [])), (0,))
        self.assert_same(names_to(other=BENT, one=Graph.path(4)), (0, 2, 1, 3))
        self.assert_same(names_to(SQUARE, Graph.cycle(4)), (0, 1, 3, 2))
        self.assert_same(names_to(Graph.cube(3), SQUARE * Graph.path(2)), tuple(range(8)))

    def test_large_graphs_with_names(self):
        known = []
        for graph in large_graphs():
            self.assertEqual(graph.size, 24)
            self.assert_same(names_to(graph, graph), tuple(range(24)))
            for step in (5, 7, 11):
                known.append(self.assert_first(graph, mixed(graph, step)))
                known.append(self.assert_first(mixed(graph, step), graph))
        self.assertGreater(len(known) - known.count(None), 60)
        for graph in grown_graphs():
            if graph.size <= 24:
                self.assert_first(graph, mixed(graph, 5))

    def test_large_graphs_with_many_names(self):
        star = Graph(24, [(0, k) for k in range(1, 24)])
        last = joined(24, [(23, k) for k in range(23)])
        self.assert_same(names_to(star, last), (23, *range(23)))
        self.assert_same(names_to(last, star), (*range(1, 24), 0))
        self.assert_same(names_to(complete_pair(12, 12), joined(24, [(a, b) for a in range(0, 24, 2) for b in range(1, 24, 2)])),
                         (*range(0, 24, 2), *range(1, 24, 2)))
        far = joined(24, [(k, 23 - k) for k in range(12)] + [(k, k + 1) for k in range(12, 23)])
        comb = joined(24, [(k, k + 12) for k in range(12)] + [(k, k + 1) for k in range(11)])
        self.assert_same(names_to(comb, far), (*range(12, 24), *range(11, -1, -1)))
        turned = joined(24, cycles(24))
        self.assert_same(names_to(Graph.cycle(24), turned), tuple(range(24)))
        self.assert_same(names_to(turned, mixed(turned, 5))[0], 0)

    def test_large_graphs_without_names(self):
        for one, other in pairs_without_names():
            self.assertEqual((one.size, len(one.edges)), (other.size, len(other.edges)))
            for first in (one, mixed(one, 5)):
                for second in (other, mixed(other, 7)):
                    self.assert_told(Undefined, NO_NAMES, names_to, first, second)
                    self.assert_told(Undefined, NO_NAMES, names_to, second, first)
        graphs = large_graphs()
        for one, other in combinations(graphs, 2):
            self.assert_told(Undefined, NO_NAMES, names_to, one, other)

    def test_parts_that_only_look_alike(self):
        # Distances and common neighbors do not tell these two parts from one another, so the first names tried fail.
        one, other = rows_and_columns(), turned_squares()
        first, second = below_one_vertex(one, other), below_one_vertex(other, one)
        self.assert_same(names_to(first, second), (0, *range(17, 33), *range(1, 17)))
        self.assert_same(names_to(second, first), (0, *range(17, 33), *range(1, 17)))
        self.assert_same(names_to(first, first), tuple(range(33)))
        turned = mixed(second, 5)
        self.assertIs(are_names(first, turned, names_to(first, turned)), True)

    def test_an_edge_moved(self):
        for graph in (Graph.path(4) * Graph.path(3), Graph.cube(3), Graph.path(6) * Graph.path(4)):
            edges = list(graph.edges)
            moved = joined(graph.size, edges[1:] + [(0, graph.size - 1)])
            self.assertTrue(connected(moved.size, moved.edges))
            self.assert_told(Undefined, NO_NAMES, names_to, graph, moved)
            self.assert_first(moved, mixed(moved, 5))

    def test_the_center_is_kept(self):
        for graph in many_median_graphs():
            if graph.size <= 16:
                totals = [sum(row) for row in table_of(graph)]
                center = {v for v in graph if totals[v] == min(totals)}
                for names in all_names(graph) if graph.size <= 9 else [names_to(graph, graph)]:
                    self.assertEqual({names[v] for v in center}, center)

    def test_the_same_question_again(self):
        one, other = Graph.path(4), Graph.cycle(4)
        first, between = names_to(one, BENT), names_to(SQUARE, other)
        self.assertNotEqual(first, between)
        self.assert_same(names_to(one, BENT), first)
        self.assert_same(outcome(names_to, one, other), ("Undefined", "names"))
        self.assert_same(names_to(SQUARE, other), between)


class Renamed(Case):

    def test_all_orders_of_tiny_graphs(self):
        for graph in tiny_graphs(4):
            for names in permutations(range(graph.size)):
                found = renamed(graph, names)
                self.assert_same(found.edges, renamed_by(graph, names).edges)
                self.assert_same(found.size, graph.size)
                self.assertIs(are_names(graph, found, names), True)

    def test_large_graphs(self):
        for graph in large_graphs() + [Graph.path(40), Graph.cube(5)]:
            names = tuple(reversed(range(graph.size)))
            before = (graph.size, graph.edges)
            found = renamed(names=names, graph=graph)
            self.assert_same(found, renamed_by(graph, names))
            self.assert_same(renamed(found, names), graph)
            self.assert_same((graph.size, graph.edges), before)
            if graph.size == 24:
                self.assertIs(are_names(graph, found, names_to(graph, found)), True)

    def test_examples(self):
        self.assert_same(renamed(Graph.path(4), (0, 2, 1, 3)), BENT)
        self.assert_same(renamed(Graph.path(3), (1, 2, 0)), Graph(3, [(0, 2), (1, 2)]))
        self.assert_same(renamed(Graph(1, []), (0,)), Graph(1, []))

    def test_what_are_no_names(self):
        wrong = [
            None, True, False, 0, 1, 10 ** 30, "", "0123", [0, 1, 2, 3], [], (), (0,), (0, 1, 2), (0, 1, 2, 3, 4),
            (0, 1, 2, 2), (0, 0, 0, 0), (0, 1, 2, 4), (-1, 0, 1, 2), (1, 2, 3, 4), (0, 1, 2, 10 ** 30), (False, True, 2, 3),
            (0, True, 2, 3), (0, 1, 2, None), ("0", "1", "2", "3"), ((0,), (1,), (2,), (3,)), (0, 1, 2, [3]), (0, 1, 2, (3,)),
            ((0, 1, 2, 3),), SQUARE, (SQUARE,) * 4, DEEP, (0, 1, 2, DEEP), (0, 1, 2, 3) * 2, (3, 2, 1),
        ]
        for value in wrong:
            for graph in (SQUARE, BENT, Graph.path(4)):
                self.assert_refused(InvalidNames, renamed, graph, value)
                self.assert_refused(InvalidNames, renamed, graph=graph, names=value)
        for value in ((), (1,), (False,), [0], 0, None, (0, 0), (0, 1)):
            self.assert_refused(InvalidNames, renamed, Graph(1, []), value)
        self.assert_refused(InvalidNames, renamed, Graph.path(40), tuple(range(39)) + (38,))
        self.assert_refused(InvalidNames, renamed, Graph.path(40), tuple(range(1, 41)))

    def test_the_same_question_again(self):
        first, between = renamed(Graph.path(4), (0, 2, 1, 3)), renamed(SQUARE, (0, 2, 1, 3))
        self.assertNotEqual(first, between)
        self.assert_same(renamed(Graph.path(4), (0, 2, 1, 3)), first)


if __name__ == "__main__":
    unittest.main()
