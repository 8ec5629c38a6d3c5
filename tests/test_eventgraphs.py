"""Point [20]: the graph of events, the events of a median graph, and completed events."""

import unittest
from itertools import combinations

from helper import (
    Case, changed_graphs, event_sets, many_median_graphs, mixed, no_vertices, other_graphs, other_large_graphs,
    states_of, table_of,
)
from middlewebs.errors import InvalidNumber, TooLarge, Undefined
from middlewebs.eventgraphs import completed, events_graph, graph_events
from middlewebs.events import Events, impossible, merged, states
from middlewebs.graphs import Graph
from middlewebs.labelings import labeling
from middlewebs.medians import is_median_graph, median
from middlewebs.names import are_names, names_to

SQUARE = Graph(4, [(0, 1), (0, 2), (1, 3), (2, 3)])
ALL_PAIRS = [(a, b) for a in range(39) for b in range(a + 1, 39)]
CHAIN = [(a, a + 1) for a in range(38)]


def owned(graph, start):
    """For each vertex the ascending tuple of the classes whose letter is unlike there and at the start."""
    words = labeling(graph)
    return [tuple(k for k, letter in enumerate(word) if letter != words[start][k]) for word in words]


def kept_causes(events, found):
    """The pairs of unlike events of which each of the found states that has the second has the first."""
    return [(a, b) for a in events for b in events if a != b and all(a in state for state in found if b in state)]


def kept_conflicts(events, found):
    return [pair for pair in combinations(events, 2) if not any(set(pair) <= set(state) for state in found)]


def completed_by_hand(many, causes, conflicts):
    """The completed events, by going through all states."""
    found = states_of(many, causes, conflicts)
    kept = [event for event in range(many) if any(event in state for state in found)]
    number = {event: place for place, event in enumerate(kept)}
    return Events(
        len(kept), [(number[a], number[b]) for a, b in kept_causes(kept, found)],
        [(number[a], number[b]) for a, b in kept_conflicts(kept, found)],
    )


class EventsGraph(Case):

    def test_many_events(self):
        for many, causes, conflicts in event_sets():
            events = Events(many, causes, conflicts)
            found = states_of(many, causes, conflicts)
            if len(found) > 40:
                self.assert_told(TooLarge, {"what": "states"}, events_graph, events)
                continue
            graph = events_graph(events)
            places = range(len(found))
            edges = [(a, b) for a in places for b in places if len(set(found[b]) - set(found[a])) == 1
                     and set(found[a]) < set(found[b])]
            self.assert_same((graph.size, graph.edges), (len(found), tuple(edges)))
            self.assertIs(is_median_graph(graph), True)
            table = table_of(graph) if graph.size < 20 else graph.distances
            for a, b in combinations(graph, 2):
                self.assertEqual(table[a][b], len(set(found[a]) ^ set(found[b])))
            self.assertEqual(events, Events(many, causes, conflicts))

    def test_examples(self):
        self.assert_same(events_graph(Events(2, [], [])), SQUARE)
        self.assert_same(events_graph(events=Events(0, [], [])), Graph(1, []))
        self.assert_same(events_graph(Events(1, [], [])), Graph.path(2))
        self.assert_same(events_graph(Events(2, [], [(0, 1)])), Graph(3, [(0, 1), (0, 2)]))
        self.assert_same(events_graph(Events(2, [(1, 0)], [])), Graph.path(3))
        self.assert_same(events_graph(Events(2, [(0, 1)], [(0, 1)])), Graph.path(2))

    def test_exactly_40_states_and_more(self):
        self.assert_same(events_graph(Events(39, CHAIN, [])), Graph.path(40))
        self.assert_same(events_graph(Events(39, [], ALL_PAIRS)), Graph(40, [(0, k) for k in range(1, 40)]))
        for events in (Events(39, [], ALL_PAIRS[1:]), Events(39, CHAIN[:-1], []), Events(39, [], []), Events(6, [], [])):
            self.assert_told(TooLarge, {"what": "states"}, events_graph, events)
            self.assert_told(TooLarge, {"what": "states"}, events_graph, events=events)

    def test_what_is_in_both_states_is_a_median(self):
        for many, causes, conflicts in event_sets()[::3]:
            found = states_of(many, causes, conflicts)
            if len(found) < 20:
                graph = events_graph(Events(many, causes, conflicts))
                for a, b in combinations(graph, 2):
                    both = tuple(event for event in found[a] if event in found[b])
                    self.assert_same(median(graph, a, b, 0), found.index(both))

    def test_a_merged_state_is_farther_on(self):
        for many, causes, conflicts in event_sets()[::5]:
            events = Events(many, causes, conflicts)
            found = states_of(many, causes, conflicts)
            if len(found) < 20:
                for a, b in combinations(range(len(found)), 2):
                    if tuple(sorted({*found[a], *found[b]})) in found:
                        self.assertIn(merged(events, found[a], found[b]), found)

    def test_the_same_question_again(self):
        one, other = Events(2, [], []), Events(3, [], [(0, 1), (0, 2), (1, 2)])
        first, between = events_graph(one), events_graph(other)
        self.assertNotEqual(first, between)
        self.assert_same(events_graph(one), first)
        self.assert_same(events_graph(Events(3, (), ((0, 1), (0, 2), (1, 2)))), between)


class GraphEvents(Case):

    def assert_events(self, graph, start):
        before = (graph.size, graph.edges)
        found = graph_events(graph, start)
        self.assertIsInstance(found, Events)
        owners = owned(graph, start)
        events = range(len(labeling(graph)[0]))
        self.assert_same(found.many, len(events))
        self.assert_same(found.causes, tuple(kept_causes(events, owners)))
        self.assert_same(found.conflicts, tuple(kept_conflicts(events, owners)))
        # The states are what the vertices have, each once.
        self.assert_same(states(found), tuple(sorted(owners, key=lambda state: (len(state), state))))
        self.assert_same((graph.size, graph.edges), before)
        return found

    def test_median_graphs_from_every_vertex(self):
        for graph in many_median_graphs():
            if graph.size <= 12:
                for start in graph:
                    self.assert_events(graph, start)

    def test_large_median_graphs_from_some_vertices(self):
        for graph in many_median_graphs():
            if graph.size > 12:
                for start in (0, graph.size // 2, graph.size - 1):
                    self.assert_events(graph, start)

    def test_the_events_graph_is_the_graph_up_to_renaming(self):
        for graph in many_median_graphs():
            if graph.size <= 24:
                for start in (0, graph.size // 3, graph.size - 1):
                    back = events_graph(graph_events(graph, start))
                    self.assertIs(are_names(back, graph, names_to(back, graph)), True)

    def test_examples(self):
        self.assert_same(graph_events(SQUARE, 0), Events(2, [], []))
        self.assert_same(graph_events(start=3, graph=SQUARE), Events(2, [], []))
        self.assert_same(graph_events(Graph(1, []), 0), Events(0, [], []))
        self.assert_same(graph_events(Graph.path(3), 0), Events(2, [(0, 1)], []))
        self.assert_same(graph_events(Graph.path(3), 2), Events(2, [(1, 0)], []))
        self.assert_same(graph_events(Graph.path(3), start=1), Events(2, [], [(0, 1)]))
        star = Graph(40, [(0, k) for k in range(1, 40)])
        self.assert_same(graph_events(star, 0), Events(39, [], ALL_PAIRS))
        self.assert_same(graph_events(star, 1), Events(39, [(0, k) for k in range(1, 39)], ALL_PAIRS[38:]))

    def test_what_is_no_vertex(self):
        for graph in (SQUARE, Graph(1, []), Graph.cycle(3), Graph.cycle(6), Graph.path(40)):
            for value in no_vertices(graph):
                self.assert_refused(InvalidNumber, graph_events, graph, value)
                self.assert_refused(InvalidNumber, graph_events, graph=graph, start=value)

    def test_what_is_no_median_graph(self):
        for graph in other_graphs() + other_large_graphs()[:6] + changed_graphs()[::7]:
            if not is_median_graph(graph):
                for start in (0, graph.size - 1):
                    self.assert_told(Undefined, {"what": "median"}, graph_events, graph, start)

    def test_the_same_question_again(self):
        one, other = mixed(Graph.cube(3), 3), Graph.path(8)
        first, between = graph_events(one, 2), graph_events(other, 2)
        self.assertNotEqual(first, between)
        self.assertNotEqual(graph_events(other, 3), between)
        self.assert_same(graph_events(one, 2), first)
        self.assert_same(graph_events(Graph.path(8), 2), between)


class Completed(Case):

    def test_many_events(self):
        for many, causes, conflicts in event_sets():
            events = Events(many, causes, conflicts)
            found = completed(events)
            self.assertIsInstance(found, Events)
            expected = completed_by_hand(many, causes, conflicts)
            self.assert_same((found.many, found.causes, found.conflicts),
                             (expected.many, expected.causes, expected.conflicts))
            self.assertEqual(events, Events(many, causes, conflicts))

    def test_the_same_states_up_to_the_new_numbers(self):
        for many, causes, conflicts in event_sets():
            found = states_of(many, causes, conflicts)
            if len(found) <= 40:
                events = Events(many, causes, conflicts)
                kept = [event for event in range(many) if event not in impossible(events)]
                back = [tuple(kept[event] for event in state) for state in states(completed(events))]
                self.assert_same(back, found)
                self.assertEqual(completed(completed(events)), completed(events))
                self.assertEqual(events_graph(completed(events)), events_graph(events))

    def test_examples(self):
        self.assert_same(completed(events=Events(0, [], [])), Events(0, [], []))
        self.assert_same(completed(Events(3, [(0, 1), (1, 2)], [])), Events(3, [(0, 1), (0, 2), (1, 2)], []))
        self.assert_same(completed(Events(3, [(0, 2)], [(0, 1)])), Events(3, [(0, 2)], [(0, 1), (1, 2)]))
        # Event 1 is in conflict with its own cause, so the others take its place.
        self.assert_same(completed(Events(4, [(0, 1), (3, 2)], [(0, 1)])), Events(3, [(2, 1)], []))
        self.assert_same(completed(Events(2, [(0, 1)], [(0, 1)])), Events(1, [], []))

    def test_events_of_graphs_are_complete(self):
        for graph in many_median_graphs():
            events = graph_events(graph, graph.size // 2)
            self.assert_same(completed(events), events)

    def test_far_more_than_40_states(self):
        self.assert_same(completed(Events(39, [], [])), Events(39, [], []))
        self.assert_same(completed(Events(39, CHAIN[:30], [])).causes,
                         tuple(pair for pair in ALL_PAIRS if pair[1] <= 30))
        left = completed(Events(39, [(0, 1), (1, 2), (30, 20)], [(0, 2), (1, 30), (5, 6)]))
        # Event 2 is impossible, so those behind it are numbered one less.
        self.assert_same(left, Events(38, [(0, 1), (29, 19)], [(1, 19), (1, 29), (4, 5)]))

    def test_the_same_question_again(self):
        one, other = Events(3, [(0, 1), (1, 2)], []), Events(3, [(0, 2)], [(0, 1)])
        first, between = completed(one), completed(other)
        self.assertNotEqual(first, between)
        self.assert_same(completed(one), first)
        self.assert_same(completed(Events(3, ((0, 2),), ((0, 1),))), between)


if __name__ == "__main__":
    unittest.main()
