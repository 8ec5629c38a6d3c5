"""Points [30] and [31]: contracted graphs, factors and boxes."""

import copy
import unittest
from itertools import combinations, permutations, product

from helper import (
    DEEP, Case, all_graphs, grown_graphs, joined, large_graphs, median_graphs, mixed, no_edges, no_sequences,
    other_graphs, other_large_graphs, outcome, table_of, tiny_graphs,
)
from middlewebs.boxes import box, contracted, factor, is_box
from middlewebs.errors import InvalidEdge, InvalidNumber, Undefined
from middlewebs.graphs import Graph
from middlewebs.labelings import labeling
from middlewebs.names import names_to
from middlewebs.parallels import parallel_classes
from middlewebs.words import Words

SQUARE = Graph(4, [(0, 1), (0, 2), (1, 3), (2, 3)])
EDGE = Graph.path(2)
TRIANGLE = Graph.cycle(3)


def complete(size):
    return Graph(size, list(combinations(range(size), 2)))


def contracted_by_hand(graph, edges):
    """The size, the edges and the names, by bringing together parts until each edge is within one."""
    parts = [{v} for v in range(graph.size)]
    for edge in edges:
        both = [part for part in parts if part & set(edge)]
        parts = [part for part in parts if part not in both] + [set().union(*both)]
    parts.sort(key=min)
    names = tuple(next(k for k, part in enumerate(parts) if v in part) for v in range(graph.size))
    met = {tuple(sorted((names[a], names[b]))) for a, b in graph.edges if names[a] != names[b]}
    return (len(parts), tuple(sorted(met)), names)


def is_box_by_hand(graph, factors, rows):
    """Whether factors and rows, which are of the right kinds, are a box."""
    table, tables = table_of(graph), [table_of(part) for part in factors]
    places = range(len(factors))
    far = all(
        sum(tables[k][rows[a][k]][rows[b][k]] for k in places) == table[a][b] for a,
        b in combinations(range(graph.size), 2)
    )
    met = [set(row[k] for row in rows) for k in places]
    crossed = [{tuple(sorted((rows[a][k], rows[b][k]))) for a, b in graph.edges} for k in places]
    return far and all(met[k] == set(range(part.size)) and crossed[k] >= set(part.edges) for k,
                       part in enumerate(factors))


def box_graphs():
    """Graphs of all kinds, with a labeling and without."""
    return all_graphs() + list(grown_graphs()) + other_large_graphs() + [
        Graph.cycle(5) * Graph.cycle(3), complete(4) * Graph.path(3), complete(6), Graph.cycle(7),
        mixed(TRIANGLE * SQUARE, 5),
        joined(6, [(0, 1), (1, 2), (0, 2), (2, 3), (3, 4), (4, 5), (3, 5)]),
        joined(7, [(0, k) for k in range(1, 7)] + [(1, 2)]),
        joined(8, [(k, (k + 1) % 5) for k in range(5)] + [(0, 5), (5, 6), (6, 7)]),
    ]


class Contracted(Case):

    def assert_contracted(self, graph, edges):
        before = (graph.size, graph.edges)
        size, met, names = contracted_by_hand(graph, edges)
        for sequence in (list(edges), tuple(edges)):
            kept = copy.deepcopy(sequence)
            value = contracted(graph, sequence)
            self.assertIs(type(value), tuple)
            self.assertIsInstance(value[0], Graph)
            self.assert_same((value[0].size, value[0].edges, value[1]), (size, met, names))
            self.assertEqual(sequence, kept)
        self.assert_same((graph.size, graph.edges), before)

    def test_examples(self):
        self.assert_same(contracted(SQUARE, [(0, 1)]), (TRIANGLE, (0, 0, 1, 2)))
        self.assert_same(contracted(edges=[(0, 1), (3, 2)], graph=SQUARE), (EDGE, (0, 0, 1, 1)))
        self.assert_same(contracted(Graph.path(5), edges=((3, 4), (1, 2))), (Graph.path(3), (0, 1, 1, 2, 2)))
        self.assert_same(contracted(Graph(4, [(0, 3), (1, 2), (2, 3)]), [(0, 3)]),
                         (Graph(3, [(0, 2), (1, 2)]), (0, 1, 2, 0)))
        self.assert_same(contracted(Graph(1, []), []), (Graph(1, []), (0,)))

    def test_all_edges_of_tiny_graphs(self):
        for graph in tiny_graphs(4):
            for many in range(len(graph.edges) + 1):
                for edges in combinations(graph.edges, many):
                    self.assert_contracted(graph, edges)
                    self.assert_contracted(graph, [edge[::-1] if sum(edge) % 2 else edge for edge in reversed(edges)])

    def test_edges_several_times_and_in_either_order(self):
        for graph in median_graphs() + other_graphs() + large_graphs():
            some = list(graph.edges[::3])
            turned = [(b, a) for a, b in some]
            for edges in (some, turned, some + turned, some * 3, turned + some + some[::-1], list(graph.edges[1::7])):
                if len(edges) <= 900:
                    self.assert_contracted(graph, edges)

    def test_no_edges_and_all_edges(self):
        for graph in all_graphs():
            self.assert_same(contracted(graph, []), (graph, tuple(graph)))
            self.assert_same(contracted(graph, ()), (graph, tuple(graph)))
            self.assert_same(contracted(graph, graph.edges), (Graph(1, []), (0,) * graph.size))

    def test_the_same_edges_in_any_order(self):
        graph = Graph.path(3) * Graph.path(2)
        edges = graph.edges[1:5]
        for order in permutations(edges):
            self.assert_same(contracted(graph, order), contracted(graph, edges))

    def test_what_is_no_edge(self):
        for graph in (SQUARE, Graph.path(3), complete(5), Graph.cycle(40)):
            for value in no_edges(graph):
                for right in ([], [(0, 1)], [(1, 0), (0, 1)]):
                    for more in ([], [(0, 1)], [None, (0, 0)]):
                        sequence = right + [value] + more
                        before = copy.copy(sequence)
                        self.assert_told(InvalidEdge, {"value": value}, contracted, graph, sequence)
                        self.assert_told(InvalidEdge, {"value": value}, contracted, edges=tuple(sequence), graph=graph)
                        self.assertEqual(sequence, before)
        for value in ((0, 0), (0, 1), None, ()):
            self.assert_told(InvalidEdge, {"value": value}, contracted, Graph(1, []), [value])

    def test_what_is_no_sequence(self):
        for graph in (SQUARE, Graph(1, [])):
            for value in no_sequences():
                self.assert_refused(InvalidEdge, contracted, graph, value)
                self.assert_refused(InvalidEdge, contracted, graph=graph, edges=value)
        self.assert_told(InvalidEdge, {"value": 0}, contracted, SQUARE, (0, 1))

    def test_the_same_question_again(self):
        first, between = contracted(SQUARE, [(0, 1)]), contracted(Graph.path(4), [(0, 1)])
        self.assertNotEqual(first, between)
        self.assert_same(contracted(SQUARE, [(0, 1)]), first)
        self.assert_same(contracted(Graph.path(4), ((1, 0),)), between)


class Factor(Case):

    def test_examples(self):
        self.assert_same(factor(SQUARE, 0), (EDGE, (0, 1, 0, 1)))
        self.assert_same(factor(k=1, graph=SQUARE), (EDGE, (0, 0, 1, 1)))
        self.assert_same(factor(TRIANGLE, 0), (TRIANGLE, (0, 1, 2)))
        self.assert_same(factor(Graph.path(3) * TRIANGLE, k=0), (TRIANGLE, (0, 1, 2) * 3))
        self.assert_same(factor(Graph.path(40), 38), (EDGE, (0,) * 39 + (1,)))

    def test_by_hand(self):
        for graph in box_graphs():
            before = (graph.size, graph.edges)
            classes = parallel_classes(graph)
            for k, members in enumerate(classes):
                if k in (0, 1, len(classes) // 2, len(classes) - 1):
                    found, names = factor(graph, k)
                    others = [edge for edge in graph.edges if edge not in members]
                    self.assert_same((found.size, found.edges, names), contracted_by_hand(graph, others))
                    self.assertEqual(len(parallel_classes(found)), 1)
            self.assert_same((graph.size, graph.edges), before)

    def test_what_is_no_place_of_a_class(self):
        for graph in (SQUARE, TRIANGLE, Graph.path(40), Graph(1, []), complete(40)):
            many = len(parallel_classes(graph))
            for value in (-1, many, many + 1, 40, 10 ** 30, -(10 ** 30), True, False, None, "", "0", (), (0,), [], [0],
                          (0, 1), graph,
                          graph.edges, DEEP):
                self.assert_refused(InvalidNumber, factor, graph, value)
                self.assert_refused(InvalidNumber, factor, graph=graph, k=value)
        self.assert_refused(InvalidNumber, factor, Graph(1, []), 0)

    def test_the_same_question_again(self):
        first, between = factor(SQUARE, 1), factor(Graph.path(4), 2)
        self.assertNotEqual(first, between)
        self.assertNotEqual(factor(SQUARE, 0), first)
        self.assert_same(factor(SQUARE, 1), first)


class Box(Case):

    def test_examples(self):
        self.assert_same(box(SQUARE), ((EDGE, EDGE), ((0, 0), (1, 0), (0, 1), (1, 1))))
        self.assert_same(box(Graph(1, [])), ((), ((),)))
        self.assert_same(box(graph=TRIANGLE), ((TRIANGLE,), ((0,), (1,), (2,))))
        self.assert_same(box(Graph.path(3)), ((EDGE, EDGE), ((0, 0), (1, 0), (1, 1))))
        self.assert_same(box(TRIANGLE * EDGE), ((EDGE, TRIANGLE), tuple((b, a) for a in range(3) for b in range(2))))

    def assert_box(self, graph):
        before = (graph.size, graph.edges)
        value = box(graph)
        factors, rows = value
        self.assertTrue(type(value) is type(factors) is type(rows) is tuple)
        self.assertTrue(all(type(row) is tuple for row in rows))
        pairs = [factor(graph, k) for k in range(len(parallel_classes(graph)))]
        self.assert_same(factors, tuple(part for part, _ in pairs))
        self.assert_same(rows, tuple(tuple(names[v] for _, names in pairs) for v in graph))
        self.assertTrue(is_box_by_hand(graph, factors, rows))
        self.assertIs(is_box(graph, value), True)
        has_labeling = outcome(labeling, graph)[0] == "returned"
        self.assertEqual(all(part.size == 2 for part in factors), has_labeling)
        if has_labeling:
            self.assert_same(rows, labeling(graph))
        self.assert_same((graph.size, graph.edges), before)
        return value

    def test_tiny_graphs(self):
        for graph in tiny_graphs(4) + tiny_graphs(5)[-728::5]:
            self.assert_box(graph)

    def test_graphs_of_all_kinds(self):
        for graph in box_graphs():
            self.assert_box(graph)

    def test_factors_cannot_be_divided_further(self):
        for graph in box_graphs():
            for part in box(graph)[0][:3]:
                self.assert_same(box(part)[0], (part,))
                self.assert_same(box(part)[1], tuple((v,) for v in part))

    def test_the_finest_box_of_a_product(self):
        graphs = median_graphs()[:6] + other_graphs()[:6] + [complete(4)]
        for one, other in product(graphs, repeat=2):
            if one.size * other.size <= 40:
                first, second = box(one)[0], box(other)[0]
                found = box(mixed(one * other, 3))[0]
                self.assertEqual(len(found), len(first) + len(second))
                left = list(first + second)
                for part in found:
                    alike = [k for k, each in enumerate(left) if outcome(names_to, part, each)[0] == "returned"]
                    self.assertNotEqual(alike, [])
                    left.pop(alike[0])

    def test_complete_graphs_and_odd_cycles_stay_whole(self):
        for graph in [complete(n) for n in (3, 4, 7, 40)] + [Graph.cycle(n) for n in (3, 5, 7, 39)]:
            self.assert_same(box(graph), ((graph,), tuple((v,) for v in graph)))

    def test_the_same_question_again(self):
        first, between = box(TRIANGLE * EDGE), box(SQUARE)
        self.assertNotEqual(first, between)
        self.assert_same(box(TRIANGLE * EDGE), first)
        self.assert_same(box(Graph.cycle(4) * Graph(1, [])), box(Graph.cycle(4)))


class IsBox(Case):

    def boxes_of(self, graph):
        """Boxes of the graph: the finest, the coarsest, those with factors renamed and in another order."""
        factors, rows = box(graph)
        found = [(factors, rows)]
        if graph.size > 1:
            found.append(((graph,), tuple((v,) for v in graph)))
        found.append((tuple(reversed(factors)), tuple(tuple(reversed(row)) for row in rows)))
        turned = [tuple(reversed(range(part.size))) for part in factors]
        other = tuple(joined(part.size, [(names[a], names[b]) for a, b in part.edges]) for part,
                      names in zip(factors, turned))
        found.append((other, tuple(tuple(names[x] for names, x in zip(turned, row)) for row in rows)))
        return found

    def test_boxes(self):
        for graph in box_graphs():
            classes = parallel_classes(graph)
            for factors, rows in self.boxes_of(graph):
                self.assertTrue(is_box_by_hand(graph, factors, rows))
                self.assertIs(is_box(graph, (factors, rows)), True)
                self.assertLessEqual(len(factors), len(classes))
                for members in classes:
                    for a, b in members:
                        unlike = [k for k in range(len(factors)) if rows[a][k] != rows[b][k]]
                        self.assertEqual(len(unlike), 1)
                        first = members[0]
                        self.assertNotEqual(rows[first[0]][unlike[0]], rows[first[1]][unlike[0]])

    def test_two_factors_of_a_path_together(self):
        rows = ((0, 0), (1, 0), (2, 0), (2, 1))
        self.assertIs(is_box(Graph.path(4), ((Graph.path(3), EDGE), rows)), True)
        self.assertIs(is_box(value=((EDGE, Graph.path(3)), tuple(row[::-1] for row in rows)), graph=Graph.path(4)),
                      True)
        self.assertIs(is_box(Graph.path(4), ((Graph.path(3), EDGE), rows[:3] + ((1, 1),))), False)

    def test_all_rows_of_small_graphs(self):
        for graph in (EDGE, Graph.path(3), TRIANGLE, SQUARE):
            for factors in ((EDGE,), (EDGE, EDGE), (TRIANGLE,), (Graph.path(3),), (SQUARE,), (EDGE, EDGE, EDGE)):
                every = list(product(*[range(part.size) for part in factors]))
                for rows in product(every, repeat=graph.size):
                    self.assertIs(is_box(graph, (factors, rows)), is_box_by_hand(graph, factors, rows))

    def test_vertices_and_edges_that_are_not_met(self):
        path = Graph.path(3)
        rows = ((0,), (1,), (2,))
        self.assertIs(is_box(path, ((path,), rows)), True)
        self.assertIs(is_box(path, ((Graph.path(4),), rows)), False)
        self.assertIs(is_box(path, ((SQUARE,), ((0,), (1,), (3,)))), False)
        self.assertIs(is_box(path, ((path, EDGE), tuple(row + (0,) for row in rows))), False)
        self.assertIs(is_box(path, ((path, EDGE), tuple(row + (1,) for row in rows))), False)
        self.assertIs(is_box(path, ((path, Graph(1, [])), tuple(row + (0,) for row in rows))), False)

    def test_changed_boxes(self):
        for graph in median_graphs()[1:] + other_graphs():
            factors, rows = box(graph)
            for a, b in ((0, 1), (0, graph.size - 1)):
                changed = list(rows)
                changed[a], changed[b] = rows[b], rows[a]
                self.assertIs(is_box(graph, (factors, tuple(changed))), is_box_by_hand(graph, factors, changed))
                changed = list(rows)
                changed[a] = rows[b]
                self.assertIs(is_box(graph, (factors, tuple(changed))), False)
            for other in median_graphs() + other_graphs():
                if other.size == graph.size:
                    self.assertIs(is_box(other, (factors, rows)), is_box_by_hand(other, factors, rows))

    def test_any_value_at_all(self):
        factors, rows = box(SQUARE)
        wrong = [
            None, True, False, 0, 1, 10 ** 30, "", "box", (), [], DEEP, SQUARE, factors, rows, (factors,), (rows,),
            [factors, rows],
            (rows, factors), (factors, rows, rows), (list(factors), rows), (factors, list(rows)),
            (factors, tuple(list(row) for row in rows)),
            (factors, rows[:3]), (factors, rows + (rows[0],)), (factors[:1], rows), (factors * 2, rows), ((), rows),
            (factors, ()),
            (factors, tuple(row[:1] for row in rows)), (factors, tuple(row * 2 for row in rows)),
            (factors, rows[:3] + (None,)),
            (factors, rows[:3] + ((1, 2),)), (factors, rows[:3] + ((1, -1),)), (factors, rows[:3] + ((1, True),)),
            (factors, ((False, False),) + rows[1:]), (factors, rows[:3] + ((1, "1"),)), (factors, rows[:3] + ("11",)),
            (factors, rows[:3] + ((1, (1,)),)), (factors, rows[:3] + ((1, None),)),
            (factors, rows[:3] + ((1, 10 ** 30),)),
            ((EDGE, None), rows), ((EDGE, 2), rows), ((EDGE, (2, ((0, 1),))), rows),
            ((EDGE, Words(1, [(0,), (1,)])), rows),
            ((EDGE, Graph(1, [])), tuple((a, 0) for a, _ in rows)), ([EDGE, EDGE], rows), ((EDGE, [EDGE]), rows),
            ((factors,), rows),
            (SQUARE, rows), (EDGE, rows), (None, rows), (factors, None), (factors, SQUARE), (True, False),
            (factors, DEEP), (DEEP, rows),
            ((EDGE,) * 1500, tuple((0,) * 1500 for _ in range(4))), ((SQUARE,), (0, 1, 2, 3)),
            ((SQUARE,), ((0,), (1,), (2,), (2,))),
            ("graph", rows), (factors, "0011"), (0, 0), ((), ()), ((), ((),) * 4), ((), ((),)),
        ]
        for value in wrong:
            self.assertIs(is_box(SQUARE, value), False, repr(value))
            self.assertIs(is_box(value=value, graph=Graph.path(5)), False)
        self.assertIs(is_box(SQUARE, (factors, rows)), True)
        one = Graph(1, [])
        self.assertIs(is_box(one, ((), ((),))), True)
        for value in (((), ()), ((), [()]), ([], ((),)), ((one,), ((0,),)), ((EDGE,), ((0,),)), ((), ((), ())),
                      ((), ((0,),)), ((),), None):
            self.assertIs(is_box(one, value), False)

    def test_nothing_is_changed(self):
        value = ([EDGE, EDGE], [[0, 0], [1, 0], [0, 1], [1, 1]])
        before = copy.deepcopy(value)
        self.assertIs(is_box(SQUARE, value), False)
        self.assertEqual(value, before)
        self.assertEqual(outcome(factor, SQUARE, 2), ("InvalidNumber", 2))
        self.assertEqual(outcome(labeling, TRIANGLE)[:1], ("Undefined",))
        with self.assertRaises(Undefined):
            labeling(TRIANGLE)

    def test_the_same_question_again(self):
        right, other = box(SQUARE), box(Graph.path(4))
        self.assertIs(is_box(SQUARE, right), True)
        self.assertIs(is_box(SQUARE, other), False)
        self.assertIs(is_box(Graph.path(4), other), True)
        self.assertIs(is_box(SQUARE, right), True)


if __name__ == "__main__":
    unittest.main()
