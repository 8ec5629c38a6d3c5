"""Point [32]: the six forms, the ways between them, and things that are alike."""

import unittest
from itertools import combinations

from helper import (
    DEEP, Case, all_words, changed_graphs, clause_sets, closure_of, event_sets, grown_graphs, many_median_graphs,
    median_graphs, mixed, other_graphs, other_large_graphs, outcome, settings_of, single_letters, states_of, steps_of,
    tiny_graphs, word_sets,
)
from middlewebs.clauses import Clauses
from middlewebs.desk import Desk
from middlewebs.errors import InvalidForm, TooLarge, Undefined
from middlewebs.eventgraphs import events_graph, graph_events
from middlewebs.events import Events
from middlewebs.folds import Folding, folded_words, folding
from middlewebs.forms import are_alike, form_of, graph_of, led
from middlewebs.graphs import Graph
from middlewebs.growth import Growth, grown, growth_of
from middlewebs.medians import is_median_graph
from middlewebs.names import are_names, names_to
from middlewebs.settings import clauses_words
from middlewebs.wordclauses import words_clauses
from middlewebs.wordgraphs import graph_words, words_graph
from middlewebs.words import Words

FORMS = ("graph", "words", "clauses", "events", "growth", "folding")
SQUARE = Graph(4, [(0, 1), (0, 2), (1, 3), (2, 3)])
MEDIAN = {"what": "median"}


def six_forms():
    """One object of each form; each stands for a cycle of four."""
    return {
        "graph": Graph.cycle(4),
        "words": Words(3, [(0, 0, 1), (0, 1, 1), (1, 0, 1), (1, 1, 1)]),
        "clauses": Clauses(3, [((2, 1),)]),
        "events": Events(2, [], []),
        "growth": Growth([(0,), (0, 1)]),
        "folding": Folding(2, ((0, 0), (0, 1), (1, 0), (1, 1))),
    }


def least_and_greatest():
    """Objects of all forms with the least and the greatest sizes."""
    return [
        Graph(1, []), Graph.path(40), Graph(40, [(0, k) for k in range(1, 40)]), Graph.cube(5),
        Words(0, [()]), Words(39, [(1,) * 39]), Words(39, steps_of(39)), Words(39, [(0,) * 39] + single_letters(39)),
        Clauses(0, []), Clauses(39, [((k, 0), (k + 1, 1)) for k in range(38)]),
        Clauses(39, [((k, 1),) for k in range(39)]),
        Events(0, [], []), Events(39, [(k, k + 1) for k in range(38)], []),
        Events(39, [], list(combinations(range(39), 2))),
        Growth([]), Growth([(k,) for k in range(39)]), Growth([tuple(range(2 ** k)) for k in range(5)]),
        Folding(0, ((),)), Folding(6, ((0,) * 6,) * 64), Folding(5, tuple(all_words(5))),
    ]


def no_forms():
    """Values of all kinds that are objects of none of the six forms."""
    return [
        None, True, False, 0, 1, -1, 10 ** 30, "", "graph", "words", (), [], DEEP, (Graph(1, []),), [Graph(1, [])],
        ("graph",),
        ((0, 1),), Desk(Graph(1, [])), [Words(0, [()])], (4, ((0, 1),)), "graph 1",
    ]


def no_names_of_forms():
    """Values of all kinds that are no name of a form."""
    return [
        None, True, False, 0, 1, 5, 10 ** 30, "", "Graph", "graphs", "graph ", " graph", "GRAPH", "word", "fold",
        "folding\n", "desk",
        "growth 1", (), ("graph",), [], ["graph"], [[]], DEEP, Graph(1, []), Words(0, [()]), FORMS, list(FORMS),
        "graph words",
    ]


class FormOf(Case):

    def test_the_six_forms(self):
        for form, value in six_forms().items():
            self.assert_same(form_of(value), form)
            self.assert_same(form_of(value=value), form)
        kinds = {Graph: "graph", Words: "words", Clauses: "clauses", Events: "events", Growth: "growth",
                 Folding: "folding"}
        for value in least_and_greatest():
            self.assert_same(form_of(value), kinds[type(value)])
        # A graph has its form also if it is no median graph, and words if they are not closed.
        for graph in other_graphs():
            self.assert_same(form_of(graph), "graph")
        self.assert_same(form_of(Words(3, single_letters(3))), "words")

    def test_any_other_value_at_all(self):
        for value in no_forms():
            self.assert_refused(InvalidForm, form_of, value)
            self.assert_refused(InvalidForm, form_of, value=value)
            self.assert_refused(InvalidForm, graph_of, value)
            self.assert_refused(InvalidForm, graph_of, value=value)


class GraphOf(Case):

    def test_examples(self):
        for value in six_forms().values():
            names_to(graph_of(value), SQUARE)
        self.assert_same(graph_of(Graph.cycle(4)), Graph.cycle(4))
        self.assert_same(graph_of(value=Events(2, [], [])), SQUARE)
        self.assert_same(graph_of(Clauses(2, [((0, 0), (1, 1))])), Graph.path(3))
        self.assert_same(graph_of(Folding(2, ((0, 0), (0, 0), (1, 0), (1, 0)))), Graph.path(2))

    def test_graphs(self):
        for graph in many_median_graphs():
            self.assert_same(graph_of(graph), graph)
        for graph in other_graphs() + other_large_graphs() + [g for g in changed_graphs()[::5] if not is_median_graph(g)]:
            self.assert_told(Undefined, MEDIAN, graph_of, graph)
            self.assert_told(Undefined, MEDIAN, graph_of, value=graph)

    def test_words(self):
        for length, words in word_sets():
            made = Words(length, words)
            if closure_of(words) == words:
                self.assert_same(graph_of(made), words_graph(made))
            else:
                self.assert_told(Undefined, MEDIAN, graph_of, made)
            self.assertEqual((made.length, made.words), (length, tuple(words)))
        # Words that are not closed are refused as no median graph, whether they have a graph or not.
        self.assertEqual(outcome(words_graph, Words(3, single_letters(3))), ("Undefined", "graph"))
        self.assert_told(Undefined, MEDIAN, graph_of, Words(3, single_letters(3)))
        cycle = [(0, 0, 0), (0, 0, 1), (0, 1, 1), (1, 0, 0), (1, 1, 0), (1, 1, 1)]
        self.assertEqual(words_graph(Words(3, cycle)).size, 6)
        self.assert_told(Undefined, MEDIAN, graph_of, Words(3, cycle))

    def test_clauses(self):
        for letters, clauses in clause_sets():
            made = Clauses(letters, clauses)
            found = settings_of(letters, clauses)
            if len(found) == 0:
                self.assert_told(Undefined, {"what": "settings"}, graph_of, made)
            elif len(found) > 40:
                self.assert_told(TooLarge, {"what": "settings"}, graph_of, made)
            else:
                self.assert_same(graph_of(made), words_graph(Words(letters, found)))
        self.assert_told(TooLarge, {"what": "settings"}, graph_of, Clauses(39, []))
        self.assert_told(Undefined, {"what": "settings"}, graph_of, Clauses(39, [((0, 0),), ((0, 1),)]))

    def test_events(self):
        for many, causes, conflicts in event_sets():
            made = Events(many, causes, conflicts)
            if len(states_of(many, causes, conflicts)) > 40:
                self.assert_told(TooLarge, {"what": "states"}, graph_of, made)
            else:
                self.assert_same(graph_of(made), events_graph(made))
        self.assert_told(TooLarge, {"what": "states"}, graph_of, Events(39, [], []))

    def test_growths_and_foldings(self):
        for graph in many_median_graphs():
            growth = growth_of(graph)[0]
            self.assert_same(graph_of(growth), grown(growth))
        for length in range(6):
            made = Folding(length, tuple(all_words(length)))
            self.assert_same(graph_of(made), words_graph(folded_words(made)))
        self.assert_told(TooLarge, {"what": "words"}, graph_of, Folding(6, tuple(all_words(6))))

    def test_what_comes_is_a_median_graph(self):
        for value in least_and_greatest():
            self.assertTrue(is_median_graph(graph_of(value)))

    def test_the_same_question_again(self):
        one, other = Growth([(0,), (0, 1)]), Growth([(0,), (0,)])
        first, between = graph_of(one), graph_of(other)
        self.assertNotEqual(first, between)
        self.assert_same(graph_of(one), first)


class Led(Case):

    def assert_led(self, value):
        graph = graph_of(value)
        words = graph_words(graph)
        expected = {
            "graph": graph, "words": words, "clauses": words_clauses(words), "events": graph_events(graph, 0),
            "growth": growth_of(graph)[0],
        }
        for form in FORMS:
            if form == "folding" and words.length > 6:
                self.assert_told(TooLarge, {"what": "letters"}, led, value, form)
                self.assert_told(TooLarge, {"what": "letters"}, led, value=value, form=form)
                continue
            found = led(value, form)
            self.assert_same(found, expected[form] if form in expected else folding(words))
            self.assertEqual(form_of(found), form)
            back = graph_of(found)
            if graph.size <= 24:
                self.assertIs(are_names(back, graph, names_to(back, graph)), True)
                self.assertIs(are_alike(found, value), True)
            else:
                self.assertEqual((back.size, len(back.edges)), (graph.size, len(graph.edges)))
            self.assert_same(led(form=form, value=value), found)

    def test_each_form_to_each_form(self):
        for value in six_forms().values():
            for form, expected in six_forms().items():
                found = led(value, form)
                self.assertEqual(form_of(found), form)
                self.assertIs(are_alike(found, expected), True)
                for further in FORMS:
                    self.assertIs(are_alike(led(found, further), value), True)

    def test_median_graphs(self):
        for graph in many_median_graphs():
            self.assert_led(graph)

    def test_all_tiny_median_graphs(self):
        for graph in tiny_graphs(4):
            if is_median_graph(graph):
                self.assert_led(graph)
            else:
                for form in FORMS:
                    self.assert_told(Undefined, MEDIAN, led, graph, form)

    def test_other_forms(self):
        for length, words in word_sets()[::4]:
            if closure_of(words) == words:
                self.assert_led(Words(length, words))
        for letters, clauses in clause_sets()[::4]:
            if 0 < len(settings_of(letters, clauses)) <= 40:
                self.assert_led(Clauses(letters, clauses))
        for many, causes, conflicts in event_sets()[::4]:
            if len(states_of(many, causes, conflicts)) <= 40:
                self.assert_led(Events(many, causes, conflicts))
        for value in least_and_greatest():
            self.assert_led(value)

    def test_six_letters_and_seven(self):
        six, seven = Growth([(k,) for k in range(6)]), Growth([(k,) for k in range(7)])
        self.assert_same(led(six, "folding"), folding(graph_words(Graph.path(7))))
        self.assert_told(TooLarge, {"what": "letters"}, led, seven, "folding")
        self.assert_same(led(seven, "growth"), growth_of(Graph.path(8))[0])
        self.assertEqual(led(Words(9, [(0,) * 9]), "folding").length, 0)

    def test_examples(self):
        self.assert_same(led(SQUARE, "events"), Events(2, [], []))
        self.assert_same(led(SQUARE, "clauses"), Clauses(2, []))
        self.assert_same(led(SQUARE, "growth"), Growth([(0,), (0, 1)]))
        self.assert_same(led(SQUARE, "words"), Words(2, all_words(2)))
        self.assert_same(led(SQUARE, "graph"), SQUARE)
        self.assert_same(led(six_forms()["words"], form="graph"), SQUARE)
        self.assert_same(led(form="clauses", value=Clauses(3, [((0, 0), (1, 1)), ((2, 1),)])),
                         Clauses(2, [((0, 1), (1, 0))]))

    def test_the_form_is_asked_first(self):
        values = list(six_forms().values()) + no_forms() + [Graph.cycle(5), Words(3, single_letters(3)),
                                                            Clauses(1, [((0, 0),), ((0, 1),)])]
        for form in no_names_of_forms():
            for value in values:
                self.assert_refused(InvalidForm, led, value, form)
            self.assert_refused(InvalidForm, led, value=SQUARE, form=form)

    def test_then_the_errors_of_graph_of(self):
        wrong = no_forms() + [
            Graph.cycle(5), Graph.cycle(6), Words(3, single_letters(3)), Clauses(1, [((0, 0),), ((0, 1),)]),
            Clauses(39, []),
            Clauses(6, []), Events(39, [], []), Events(6, [], []), Folding(6, tuple(all_words(6))),
            Words(39, single_letters(39)),
        ]
        for value in wrong:
            told = outcome(graph_of, value)
            self.assertNotEqual(told[0], "returned")
            for form in FORMS:
                found = outcome(led, value, form)
                self.assertEqual(found[0], told[0])
                self.assertIs(type(found[1]), type(told[1]))

    def test_the_same_question_again(self):
        one, other = SQUARE, Graph.path(4)
        for form in FORMS:
            first, between = led(one, form), led(other, form)
            self.assertNotEqual(first, between)
            self.assert_same(led(Graph(4, list(SQUARE.edges)), form), first)
            self.assert_same(led(other, form), between)


class AreAlike(Case):

    def test_the_six_forms(self):
        for one in six_forms().values():
            for other in six_forms().values():
                self.assertIs(are_alike(one, other), True)
                self.assertIs(are_alike(other=other, one=one), True)
            for other in (Graph.path(4), Graph(4, [(0, 1), (0, 2), (0, 3)]), Growth([(0,), (0,), (0,)]),
                          Events(3, [(0, 1), (1, 2)], []),
                          Graph(1, []), Words(3, all_words(3)), Clauses(1, []), Folding(1, ((0,), (0,)))):
                self.assertIs(are_alike(one, other), False)
                self.assertIs(are_alike(other, one), False)

    def test_graphs_of_at_most_24_vertices(self):
        graphs = [graph for graph in median_graphs() + list(grown_graphs()) if graph.size <= 24]
        for one, other in combinations(graphs, 2):
            self.assertIs(are_alike(one, other), outcome(names_to, one, other)[0] == "returned")
        for graph in graphs:
            self.assertIs(are_alike(graph, mixed(graph, 5)), True)
            self.assertIs(are_alike(growth_of(mixed(graph, 3))[0], graph_events(graph, graph.size - 1)), True)

    def test_the_errors_of_the_first_and_then_of_the_second(self):
        wrong = no_forms() + [
            Graph.cycle(6), Words(3, single_letters(3)), Clauses(1, [((0, 0),), ((0, 1),)]), Clauses(39, []),
            Events(39, [], []),
            Folding(6, tuple(all_words(6))),
        ]
        for value in wrong:
            told = outcome(graph_of, value)
            for other in [SQUARE, Graph(1, [])] + wrong[::4]:
                self.assertEqual(outcome(are_alike, value, other), told)
            for right in six_forms().values():
                self.assertEqual(outcome(are_alike, right, value), told)
        for value in no_forms():
            self.assert_refused(InvalidForm, are_alike, SQUARE, value)
            self.assert_refused(InvalidForm, are_alike, one=SQUARE, other=value)
        self.assert_told(Undefined, MEDIAN, are_alike, Graph.cycle(6), None)
        self.assert_told(InvalidForm, {"value": None}, are_alike, None, Graph.cycle(6))
        self.assert_told(TooLarge, {"what": "states"}, are_alike, Events(6, [], []), Clauses(6, []))
        self.assert_told(TooLarge, {"what": "settings"}, are_alike, Clauses(6, []), Events(6, [], []))

    def test_clauses_and_their_words(self):
        for letters, clauses in clause_sets()[::7]:
            made = Clauses(letters, clauses)
            if 0 < len(settings_of(letters, clauses)) <= 24:
                self.assertIs(are_alike(made, clauses_words(made)), True)

    def test_the_same_question_again(self):
        one, other = Events(2, [], []), Events(2, [(0, 1)], [])
        self.assertIs(are_alike(one, SQUARE), True)
        self.assertIs(are_alike(other, SQUARE), False)
        self.assertIs(are_alike(one, SQUARE), True)


if __name__ == "__main__":
    unittest.main()
