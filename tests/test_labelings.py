"""Point [12]: words and labelings."""

import copy
import unittest
from itertools import combinations, product

from helper import (
    Case, changed_graphs, complete_pair, many_median_graphs, mixed, other_graphs, other_large_graphs, table_of,
    tiny_graphs,
)
from middlewebs.errors import Undefined
from middlewebs.graphs import Graph
from middlewebs.labelings import is_labeling, labeling
from middlewebs.medians import is_median_graph
from middlewebs.parallels import parallel_classes, wrong_edges
from middlewebs.sides import sides

SQUARE = Graph(4, [(0, 1), (0, 2), (1, 3), (2, 3)])
WORDS = ((0, 0), (1, 0), (0, 1), (1, 1))


def unlike(one, other):
    return sum(x != y for x, y in zip(one, other))


def labels_in(table, words):
    """Whether tuples of letters of one length count the distances."""
    return all(
        unlike(one, other) == table[a][b] for a, one in enumerate(words) for b, other in enumerate(words)
    )


def has_labeling(table, words=()):
    """Whether a graph of few vertices has a labeling: by trying all words, no more letters than other vertices."""
    at = len(words)
    if at == len(table):
        return True
    tried = [(0,) * (len(table) - 1)] if at == 0 else product((0, 1), repeat=len(table) - 1)
    return any(
        has_labeling(table, words + (word,)) for word in tried
        if all(unlike(word, other) == table[at][k] for k, other in enumerate(words))
    )


def is_defined(call, graph):
    try:
        call(graph)
    except Undefined:
        return False
    return True


class Labelings(Case):

    def assert_labeling(self, graph):
        """The labeling is just what the words of the document say, or there is none."""
        before = (graph.size, graph.edges)
        self.assertIs(is_defined(labeling, graph), is_defined(sides, graph) and not is_defined(wrong_edges, graph))
        if not is_defined(labeling, graph):
            self.assert_told(Undefined, {"what": "labeling"}, labeling, graph)
            self.assert_same((graph.size, graph.edges), before)
            return None
        words = labeling(graph)
        classes = parallel_classes(graph)
        self.assertIs(type(words), tuple)
        self.assertEqual(len(words), graph.size)
        for word in words:
            self.assertIs(type(word), tuple)
            self.assertEqual(len(word), len(classes))
            self.assertTrue(all(type(letter) is int and letter in (0, 1) for letter in word))
        self.assert_same(words[0], (0,) * len(classes))
        self.assertTrue(labels_in(table_of(graph), words))
        for k, members in enumerate(classes):
            self.assertEqual(tuple((a, b) for a, b in graph.edges if words[a][k] != words[b][k]), members)
        self.assertIs(is_labeling(graph, words), True)
        self.assert_same(labeling(graph), words)
        self.assert_same((graph.size, graph.edges), before)
        return words

    def test_the_example_of_the_document(self):
        self.assert_same(labeling(SQUARE), WORDS)
        self.assert_same(labeling(graph=SQUARE), WORDS)

    def test_one_and_two_vertices(self):
        self.assert_same(labeling(Graph(1, [])), ((),))
        self.assert_same(labeling(Graph(2, [(0, 1)])), ((0,), (1,)))

    def test_the_order_of_letters(self):
        self.assert_same(labeling(Graph.path(4)), ((0, 0, 0), (1, 0, 0), (1, 1, 0), (1, 1, 1)))
        self.assert_same(labeling(Graph(4, [(0, 3), (1, 2), (2, 3)])), ((0, 0, 0), (1, 1, 1), (1, 0, 1), (1, 0, 0)))
        self.assert_same(labeling(Graph(4, [(0, 3), (1, 3), (2, 3)])), ((0, 0, 0), (1, 1, 0), (1, 0, 1), (1, 0, 0)))

    def test_every_median_graph_has_one(self):
        for graph in many_median_graphs():
            self.assertIs(is_median_graph(graph), True)
            self.assertIsNotNone(self.assert_labeling(graph))

    def test_other_graphs(self):
        for graph in other_graphs() + other_large_graphs() + changed_graphs():
            for same in (graph, mixed(graph, 3)):
                self.assert_labeling(same)

    def test_graphs_that_are_no_median_graphs_but_have_one(self):
        for number in range(6, 41, 2):
            self.assertIsNotNone(self.assert_labeling(Graph.cycle(number)))
            self.assertIs(is_median_graph(Graph.cycle(number)), False)

    def test_graphs_without_one(self):
        wrong = [
            Graph.cycle(3), Graph.cycle(5), Graph.cycle(39), complete_pair(2, 3), complete_pair(2, 38),
            complete_pair(20, 20), Graph.cycle(3) * Graph.path(13),
            Graph(40, [(a, b) for a in range(40) for b in range(a + 1, 40)]),
        ]
        for graph in wrong:
            for _ in range(2):
                self.assert_told(Undefined, {"what": "labeling"}, labeling, graph)

    def test_sides_alone_are_not_enough(self):
        graph = complete_pair(2, 3)
        self.assert_same(sides(graph), (0, 0, 1, 1, 1))
        self.assert_told(Undefined, {"what": "labeling"}, labeling, graph)

    def test_tiny_graphs_have_one_exactly_if_some_words_label_them(self):
        for graph in tiny_graphs(5):
            found = self.assert_labeling(graph)
            self.assertIs(found is not None, has_labeling(table_of(graph)))

    def test_the_labelings_of_median_graphs_alone_are_closed_under_majority(self):
        for graph in many_median_graphs() + other_graphs() + other_large_graphs() + list(tiny_graphs(5)):
            words = labeling(graph) if is_defined(labeling, graph) else None
            closed = words is not None and all(
                tuple(sorted(letters)[1] for letters in zip(*three)) in words for three in combinations(words, 3)
            )
            self.assertIs(closed, is_median_graph(graph))

    def test_no_labeling_has_fewer_letters_than_there_are_classes(self):
        for graph in tiny_graphs(4):
            table = table_of(graph)
            fewest = len(parallel_classes(graph))
            for length in range(4 if graph.size < 4 else 3):
                for words in product(product((0, 1), repeat=length), repeat=graph.size):
                    found = is_labeling(graph, words)
                    self.assertIs(found, labels_in(table, words))
                    self.assertTrue(not found or length >= fewest)

    def test_the_same_question_again(self):
        for _ in range(3):
            self.assert_same(labeling(SQUARE), WORDS)
            self.assert_same(labeling(Graph.cycle(4)), ((0, 0), (1, 0), (1, 1), (0, 1)))
            self.assert_told(Undefined, {"what": "labeling"}, labeling, Graph.cycle(5))


class IsLabeling(Case):

    def assert_none(self, graph, value):
        before = copy.deepcopy(value)
        self.assertIs(is_labeling(graph, value), False, repr(value))
        self.assert_same(value, before)

    def test_arguments_by_name(self):
        self.assertIs(is_labeling(value=WORDS, graph=SQUARE), True)
        self.assertIs(is_labeling(SQUARE, value=None), False)

    def test_letters_turned_over_or_in_another_order(self):
        for value in (
            ((1, 1), (0, 1), (1, 0), (0, 0)), ((1, 0), (0, 0), (1, 1), (0, 1)), ((0, 0), (0, 1), (1, 0), (1, 1)),
        ):
            self.assertIs(is_labeling(SQUARE, value), True)

    def test_more_letters_than_there_are_classes(self):
        for rest in ((0,), (1,), (1, 0, 1), (0,) * 37, (1,) * 37):
            self.assertIs(is_labeling(SQUARE, tuple(word + rest for word in WORDS)), True)
            self.assertIs(is_labeling(SQUARE, tuple(rest + word for word in WORDS)), True)
        # A further letter that is not the same everywhere makes some words too unlike.
        self.assert_none(SQUARE, ((0, 0, 0), (1, 0, 0), (0, 1, 0), (1, 1, 1)))
        self.assert_none(SQUARE, tuple(word + word for word in WORDS))

    def test_39_and_40_letters(self):
        path = Graph.path(40)
        words = tuple((1,) * k + (0,) * (39 - k) for k in range(40))
        self.assertIs(is_labeling(path, words), True)
        self.assert_same(labeling(path), words)
        self.assert_none(path, tuple(word + (0,) for word in words))
        for graph in (Graph(1, []), Graph(2, [(0, 1)]), SQUARE):
            start = labeling(graph)
            for letter in (0, 1):
                just = tuple(word + (letter,) * (39 - len(word)) for word in start)
                self.assertIs(is_labeling(graph, just), True)
                self.assert_none(graph, tuple(word + (letter,) for word in just))
                self.assert_none(graph, tuple(word + (letter,) * 700 for word in just))

    def test_one_vertex(self):
        graph = Graph(1, [])
        for value in (((),), ((0,),), ((1,),), ((0, 1, 1),)):
            self.assertIs(is_labeling(graph, value), True)
        for value in ((), ((), ()), (None,), (0,), ([],), [()], (((),),), ("",), ("0",)):
            self.assert_none(graph, value)
        # Here the distances forbid nothing, so only the kinds of the letters tell.
        for letter in (-1, 2, 10 ** 30, -(10 ** 30), True, False, None, "", "0", "1", (), (0,), [], [1], graph):
            for word in ((letter,), (0, letter), (letter, 1, 0)):
                self.assert_none(graph, (word,))
                self.assert_none(Graph(2, [(0, 1)]), (word + (0,), word + (1,)))

    def test_two_vertices(self):
        graph = Graph(2, [(0, 1)])
        for value in (((0,), (1,)), ((1,), (0,)), ((0, 1), (1, 1))):
            self.assertIs(is_labeling(graph, value), True)
        for value in (((0,), (0,)), ((), ()), ((0, 0), (1, 1)), ((0,),), ((0,), (1,), (1,)), ((), (0,)), ((0,), ())):
            self.assert_none(graph, value)

    def test_words_of_other_lengths(self):
        for place in range(4):
            for word in ((), (0,), (1,), WORDS[place] + (0,), WORDS[place] + (1,), WORDS[place][:1]):
                self.assert_none(SQUARE, WORDS[:place] + (word,) + WORDS[place + 1:])

    def test_a_word_more_or_less(self):
        for value in (WORDS[:-1], WORDS[1:], WORDS + ((0, 0),), WORDS + WORDS, (), ((),), WORDS + ((),), WORDS * 300):
            self.assert_none(SQUARE, value)

    def test_lists_in_place_of_tuples(self):
        self.assert_none(SQUARE, list(WORDS))
        self.assert_none(SQUARE, [list(word) for word in WORDS])
        for place in range(4):
            self.assert_none(SQUARE, WORDS[:place] + (list(WORDS[place]),) + WORDS[place + 1:])

    def test_what_is_no_bit(self):
        self.assert_none(SQUARE, tuple(tuple(letter == 1 for letter in word) for word in WORDS))
        wrong = [
            True, False, None, "", "0", "1", 2, -1, 3, 10 ** 30, -(10 ** 30), (), (0,), (1,), [], [0], [1], SQUARE,
            ((((((((1,),),),),),),),),
        ]
        for value in wrong:
            for place in range(4):
                for word in ((value, WORDS[place][1]), (WORDS[place][0], value)):
                    self.assert_none(SQUARE, WORDS[:place] + (word,) + WORDS[place + 1:])

    def test_any_value_at_all(self):
        wrong = [
            True, False, None, 0, 1, -1, 4, 10 ** 30, "", "0", "0000", "00 10 01 11", (), [], ((),) * 4,
            (None,) * 4, (0, 1, 0, 1), ("00", "10", "01", "11"), "abcd", [None] * 4, SQUARE, Graph(1, []), (SQUARE,) * 4,
            (WORDS,), (WORDS,) * 4, [WORDS], (True, False, True, False), ((((((((((0,),),),),),),),),),), (WORDS, (0, 0)),
        ]
        for value in wrong:
            for graph in (SQUARE, Graph(1, []), Graph(2, [(0, 1)]), Graph.path(40)):
                self.assert_none(graph, value)

    def test_one_letter_turned_over(self):
        for graph in many_median_graphs()[:20] + [Graph.cube(5), Graph.cycle(40), Graph.path(8) * Graph.path(5)]:
            words = labeling(graph)
            for place in range(graph.size if graph.size > 1 else 0):
                word = words[place]
                for k in (0, len(word) // 2, len(word) - 1):
                    other = word[:k] + (1 - word[k],) + word[k + 1:]
                    self.assert_none(graph, words[:place] + (other,) + words[place + 1:])

    def test_the_labeling_of_another_graph(self):
        path = labeling(Graph.path(4))
        for graph in (SQUARE, Graph.cycle(4), Graph(4, [(0, 1), (0, 2), (0, 3)]), Graph.cycle(3)):
            self.assert_none(graph, path)
            if graph != SQUARE:
                self.assert_none(graph, WORDS)
        self.assertIs(is_labeling(SQUARE, WORDS), True)
        self.assertIs(is_labeling(Graph.path(4), path), True)


if __name__ == "__main__":
    unittest.main()
