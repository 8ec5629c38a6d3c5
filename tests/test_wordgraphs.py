"""Point [15]: the graph of words and the words of a graph."""

import unittest

from helper import (
    Case, all_words, changed_graphs, closure_of, connected, many_median_graphs, mixed, other_graphs,
    other_large_graphs, outcome, single_letters, steps_of, tiny_graphs, word_sets,
)
from middlewebs.errors import Undefined
from middlewebs.graphs import Graph
from middlewebs.labelings import is_labeling, labeling
from middlewebs.medians import is_median_graph
from middlewebs.parallels import parallel_classes
from middlewebs.wordgraphs import graph_words, words_graph
from middlewebs.words import Words, closed, is_closed, is_reduced, kept_letters, reduced

SQUARE = Graph(4, [(0, 1), (0, 2), (1, 3), (2, 3)])


def kept_of(length, some):
    """The letters that are neither constant nor linked to an earlier one."""
    changes = [tuple(word[k] ^ some[0][k] for word in some) for k in range(length)]
    return [k for k in range(length) if 1 in changes[k] and changes[k] not in changes[:k]]


def edges_of(length, some):
    """The pairs of places of words with just one of the kept letters unlike."""
    kept = kept_of(length, some)
    places = range(len(some))
    return [(a, b) for a in places for b in places if a < b and sum(some[a][k] != some[b][k] for k in kept) == 1]


class WordsGraph(Case):

    def assert_graph(self, length, some):
        words = Words(length, some)
        edges = edges_of(length, some)
        if connected(len(some), edges):
            found = words_graph(words)
            self.assert_same((found.size, found.edges), (len(some), tuple(edges)))
        else:
            found = None
            self.assert_told(Undefined, {"what": "graph"}, words_graph, words)
        self.assertEqual(words, Words(length, some))
        return found

    def test_many_words(self):
        found = [self.assert_graph(length, some) for length, some in word_sets()]
        self.assertGreater(found.count(None), 20)
        self.assertGreater(len(found) - found.count(None), 80)

    def test_ordinary_words(self):
        self.assert_same(words_graph(Words(2, all_words(2))), SQUARE)
        self.assert_same(words_graph(words=Words(3, steps_of(3))), Graph.path(4))
        self.assert_same(words_graph(Words(3, all_words(3))), Graph.cube(3))
        # Letters 0 and 2 are linked, letter 1 is constant: only one letter is kept.
        self.assert_same(words_graph(Words(3, [(0, 1, 1), (1, 1, 0)])), Graph.path(2))

    def test_words_without_a_connected_graph(self):
        self.assertIsNone(self.assert_graph(3, [(0, 0, 0), (0, 1, 1), (1, 0, 1)]))
        # Here all letters are linked, so only one is kept.
        self.assert_same(self.assert_graph(3, [(0, 0, 1), (1, 1, 0)]), Graph.path(2))
        self.assert_told(Undefined, {"what": "graph"}, words_graph, Words(3, [(0, 0, 1), (0, 1, 0), (1, 0, 0)]))
        self.assert_told(Undefined, {"what": "graph"}, words_graph, words=Words(39, single_letters(39)))
        self.assert_told(
            Undefined, {"what": "graph"}, words_graph, Words(4, [word for word in all_words(4) if sum(word) % 2 == 0]),
        )

    def test_one_word(self):
        for word in ((), (0,), (1, 0), (1,) * 39):
            self.assert_same(words_graph(Words(len(word), [word])), Graph(1, []))

    def test_39_letters(self):
        self.assert_same(words_graph(Words(39, steps_of(39))), Graph.path(40))
        star = [(0,) * 39] + single_letters(39)
        self.assert_same(words_graph(Words(39, star)), Graph(40, [(0, k) for k in range(1, 40)]))

    def test_a_graph_that_is_no_median_graph(self):
        six = [word for word in all_words(3) if len(set(word)) == 2]
        found = self.assert_graph(3, six)
        self.assertIs(is_median_graph(found), False)
        self.assertEqual([len(found.neighbors(vertex)) for vertex in found], [2] * 6)

    def test_the_graph_of_closed_words(self):
        for length, some in word_sets():
            words = closed(Words(length, some))
            graph = words_graph(words)
            self.assertIs(is_median_graph(graph), True)
            letters = kept_letters(words)
            self.assertIs(is_labeling(graph, tuple(tuple(word[k] for k in letters) for word in words)), True)
            self.assertIs(is_labeling(graph, reduced(words).words), True)

    def test_the_same_question_again(self):
        one, other = Words(2, all_words(2)), Words(3, steps_of(3))
        first, between = words_graph(one), words_graph(other)
        self.assertNotEqual(first, between)
        self.assert_same(words_graph(one), first)
        self.assert_same(words_graph(Words(3, tuple(steps_of(3)))), between)


class GraphWords(Case):

    def assert_words(self, graph):
        before = (graph.size, graph.edges)
        told = outcome(labeling, graph)
        if told[0] == "returned":
            words = graph_words(graph)
            self.assert_same(words.words, tuple(sorted(told[1])))
            self.assert_same(words.length, len(parallel_classes(graph)))
            self.assertIs(is_reduced(words), True)
            self.assertIs(is_closed(words), is_median_graph(graph))
        else:
            words = None
            self.assert_told(Undefined, {"what": "labeling"}, graph_words, graph)
        self.assert_same((graph.size, graph.edges), before)
        return words

    def test_median_graphs(self):
        for graph in many_median_graphs():
            words = self.assert_words(graph)
            self.assertEqual(len(words), graph.size)
            self.assertIs(is_closed(words), True)
            self.assertEqual(closure_of(words) if graph.size < 12 else list(words), list(words))

    def test_other_graphs(self):
        found = [self.assert_words(graph) for graph in other_graphs() + other_large_graphs() + changed_graphs()[::3]]
        self.assertIn(None, found)
        self.assertGreater(len([words for words in found if words and not is_closed(words)]), 3)

    def test_tiny_graphs(self):
        found = [self.assert_words(graph) for graph in tiny_graphs(4) + tiny_graphs(5)[-300:]]
        self.assertIn(None, found)

    def test_examples(self):
        self.assert_same(graph_words(SQUARE), Words(2, all_words(2)))
        self.assert_same(graph_words(graph=Graph(1, [])), Words(0, [()]))
        self.assert_same(graph_words(Graph.path(40)), Words(39, steps_of(39)))
        self.assert_same(graph_words(Graph(3, [(0, 2), (1, 2)])), Words(2, [(0, 0), (1, 0), (1, 1)]))
        self.assert_told(Undefined, {"what": "labeling"}, graph_words, graph=Graph.cycle(5))
        self.assertIs(is_closed(graph_words(Graph.cycle(6))), False)
        self.assertEqual(graph_words(Graph.cube(5)).words, tuple(all_words(5)))

    def test_words_and_graphs_lead_back(self):
        for graph in many_median_graphs():
            words = graph_words(graph)
            back = words_graph(words)
            names = sorted(graph, key=labeling(graph).__getitem__)
            pairs = {(min(names[a], names[b]), max(names[a], names[b])) for a, b in back.edges}
            self.assertEqual(tuple(sorted(pairs)), graph.edges)

    def test_the_same_question_again(self):
        one, other = mixed(Graph.cube(3), 3), Graph.path(8)
        first, between = graph_words(one), graph_words(other)
        self.assertNotEqual(first, between)
        self.assert_same(graph_words(one), first)
        self.assert_same(graph_words(Graph.path(8)), between)


if __name__ == "__main__":
    unittest.main()
