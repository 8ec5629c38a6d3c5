"""The sentences at the head of the document and its example, over the whole program."""

import unittest
from itertools import combinations, permutations

from helper import (
    Case, all_graphs, all_words, changed_graphs, clauses_of, convex_subsets_in, many_median_graphs, median_graphs,
    mixed, other_graphs, other_large_graphs, outcome, table_of, tiny_graphs, word_sets,
)
from middlewebs.boxes import box, factor, is_box
from middlewebs.clauses import Clauses
from middlewebs.convex import apart, common
from middlewebs.cubes import cubes
from middlewebs.errors import InvalidEvents, TooLarge
from middlewebs.eventgraphs import events_graph, graph_events
from middlewebs.events import Events, states
from middlewebs.folds import Folding, folded_words, folding
from middlewebs.forms import are_alike, form_of, graph_of, led
from middlewebs.graphs import Graph
from middlewebs.growth import Growth, grown, growth_of, is_growth_of
from middlewebs.labelings import is_labeling, labeling
from middlewebs.medians import is_median_graph, median, medians, wrong_triple
from middlewebs.names import are_names, names_to
from middlewebs.parallels import are_parallel, parallel_classes, wrong_edges
from middlewebs.settings import clauses_words, settings
from middlewebs.sides import odd_cycle, sides
from middlewebs.totals import center, least_vertices
from middlewebs.wordclauses import words_clauses
from middlewebs.wordgraphs import graph_words, words_graph
from middlewebs.words import Words, is_closed, is_reduced, wrong_words

FORMS = ("graph", "words", "clauses", "events", "growth", "folding")


def defined(call, *args):
    """Whether the call returns; if not, it tells that something is undefined."""
    told = outcome(call, *args)
    if told[0] != "returned":
        assert told[0] == "Undefined", told
    return told[0] == "returned"


def many_graphs():
    return list(tiny_graphs(4)) + list(tiny_graphs(5)[-728::3]) + all_graphs() + other_large_graphs() + changed_graphs()[::4]


def small_sets_of_words():
    """All sets of words of at most three letters, and some of more."""
    found = [Words(*pair) for pair in word_sets()]
    for length in range(4):
        every = all_words(length)
        for bits in range(1, 2 ** len(every)):
            found.append(Words(length, [word for k, word in enumerate(every) if bits >> k & 1]))
    return found


def small_events():
    """All events with causes and conflicts of at most two events, and some of three."""
    found = [Events(0, [], []), Events(1, [], [])]
    for many in (2, 3):
        pairs = list(permutations(range(many), 2))
        for bits in range(2 ** len(pairs)):
            causes = [pair for k, pair in enumerate(pairs) if bits >> k & 1]
            for chosen in range(2 ** (many * (many - 1) // 2)):
                conflicts = [pair for k, pair in enumerate(combinations(range(many), 2)) if chosen >> k & 1]
                try:
                    found.append(Events(many, causes, conflicts))
                except InvalidEvents as error:
                    assert error.part == "cycle"
    return found


class HeadOfTheDocument(Case):

    def test_the_example(self):
        square = Graph(4, [(0, 1), (0, 2), (1, 3), (2, 3)])
        self.assert_same(parallel_classes(square), (((0, 1), (2, 3)), ((0, 2), (1, 3))))
        self.assert_same(labeling(square), ((0, 0), (1, 0), (0, 1), (1, 1)))
        self.assert_same(median(square, 0, 1, 2), 0)
        self.assert_same(led(square, "clauses"), Clauses(2, []))
        self.assert_same(led(square, "events"), Events(2, [], []))
        self.assert_same(led(square, "growth"), Growth(((0,), (0, 1))))
        self.assert_same(medians(Graph.cycle(6), 0, 2, 4), ())

    def test_a_median_graph_or_a_wrong_triple(self):
        for graph in many_graphs():
            self.assertNotEqual(is_median_graph(graph), defined(wrong_triple, graph))
            if not is_median_graph(graph):
                self.assertNotEqual(len(medians(graph, *wrong_triple(graph))), 1)

    def test_a_median_graph_has_a_labeling_by_closed_words(self):
        for graph in many_graphs():
            has_labeling = defined(labeling, graph)
            self.assertEqual(is_median_graph(graph), has_labeling and is_closed(graph_words(graph)))
            if has_labeling:
                self.assertIs(is_labeling(graph, labeling(graph)), True)
                self.assertNotEqual(is_closed(graph_words(graph)), defined(wrong_words, graph_words(graph)))

    def test_closed_words_are_the_settings_of_clauses(self):
        for words in small_sets_of_words():
            try:
                self.assertEqual(is_closed(words), clauses_words(words_clauses(words)) == words)
            except TooLarge:
                self.assertIs(is_closed(words), False)
        every = clauses_of(2)
        for bits in range(2 ** len(every)):
            found = settings(Clauses(2, [clause for k, clause in enumerate(every) if bits >> k & 1]))
            if found:
                self.assertIs(is_closed(Words(2, found)), True)

    def test_states_form_a_median_graph_and_median_graphs_consist_of_states(self):
        for events in small_events():
            graph = events_graph(events)
            self.assertIs(is_median_graph(graph), True)
            self.assertEqual(graph.size, len(states(events)))
        for graph in [graph for graph in many_graphs() if is_median_graph(graph) and graph.size <= 24]:
            for start in (0, graph.size - 1):
                self.assertIs(are_alike(graph_events(graph, start), graph), True)

    def test_median_graphs_are_grown(self):
        for graph in many_graphs():
            self.assertEqual(defined(growth_of, graph), is_median_graph(graph))
            if is_median_graph(graph):
                self.assertIs(is_growth_of(graph, growth_of(graph)), True)
                self.assertIs(is_median_graph(grown(growth_of(graph)[0])), True)

    def test_reduced_words_are_closed_exactly_if_the_hypercube_is_folded_onto_them(self):
        for words in small_sets_of_words():
            if is_reduced(words):
                self.assertEqual(is_closed(words), defined(folding, words))
                if is_closed(words):
                    self.assert_same(folded_words(folding(words)), words)
        # The hypercube is not folded onto three words without their majority: the images in any folding are closed.
        images = tuple(word if sum(word) == 1 else (0, 0, 1) for word in all_words(3))
        self.assertEqual(outcome(Folding, 3, images)[0], "InvalidFolding")

    def test_each_form_becomes_each_other_one(self):
        for graph in [graph for graph in many_median_graphs() if graph.size <= 24 and len(parallel_classes(graph)) <= 6]:
            things = [led(mixed(graph, 3), form) for form in FORMS]
            self.assertEqual([form_of(thing) for thing in things], list(FORMS))
            for thing in things:
                for form in FORMS:
                    self.assertIs(are_names(graph_of(led(thing, form)), graph,
                                            names_to(graph_of(led(thing, form)), graph)), True)

    def test_a_labeling_or_an_odd_cycle_or_three_edges(self):
        for graph in many_graphs():
            cycle, edges = defined(odd_cycle, graph), defined(wrong_edges, graph)
            self.assertNotEqual(cycle, defined(sides, graph))
            self.assertEqual(defined(labeling, graph), not cycle and not edges)
            if edges:
                e, f, g = wrong_edges(graph)
                self.assertEqual([are_parallel(graph, *pair) for pair in ((e, f), (f, g), (e, g))], [True, True, False])

    def test_every_graph_lies_in_its_finest_box(self):
        for graph in many_graphs():
            factors, rows = box(graph)
            self.assertIs(is_box(graph, (factors, rows)), True)
            self.assertEqual(len(factors), len(parallel_classes(graph)))
            for part in factors[:2]:
                self.assert_same(factor(part, 0)[0], part)
                self.assertEqual(len(box(part)[0]), 1)

    def test_convex_sets_that_meet_pairwise_have_a_common_vertex(self):
        for graph in [graph for graph in tiny_graphs(4) if is_median_graph(graph)] + median_graphs()[4:8]:
            subsets = [subset for subset in convex_subsets_in(table_of(graph)) if subset]
            for three in combinations(subsets[:30], 3):
                self.assertEqual(common(graph, three) == (), defined(apart, graph, three))
        # Elsewhere three may meet pairwise and have no common vertex.
        cycle = [(0, 1, 2), (2, 3, 4), (0, 4, 5)]
        self.assertEqual((common(Graph.cycle(6), cycle), defined(apart, Graph.cycle(6), cycle)), ((), False))

    def test_the_center_is_a_cube_that_every_renaming_keeps(self):
        for graph in many_median_graphs():
            self.assertIn(center(graph), cubes(graph))
            self.assert_same(center(graph), least_vertices(graph, (1,) * graph.size))
            if graph.size <= 7:
                for names in permutations(range(graph.size)):
                    if are_names(graph, graph, names):
                        self.assertEqual(sorted(names[vertex] for vertex in center(graph)), list(center(graph)))

    def test_other_graphs_are_refused_as_any_form(self):
        for graph in other_graphs():
            for form in FORMS:
                self.assertEqual(outcome(led, graph, form), ("Undefined", "median"))
        self.assert_same(words_graph(led(Graph.path(3), "words")), Graph.path(3))


if __name__ == "__main__":
    unittest.main()
