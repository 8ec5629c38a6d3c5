"""Points [19] and [21]: events, their states, merged states and conflicts."""

import copy
import unittest
from itertools import combinations, product

from helper import DEEP, Case, event_sets, no_numbers, no_sequences, no_states, states_of
from middlewebs.errors import InvalidEvents, InvalidState, TooLarge, Undefined
from middlewebs.events import Events, conflict, impossible, is_state, merged, states
from middlewebs.graphs import Graph
from middlewebs.words import Words

CAUSES = [(0, 2), (1, 2), (2, 3)]
CONFLICTS = [(0, 4), (3, 4)]
FORK = Events(5, CAUSES, CONFLICTS)
ALL_PAIRS = [(a, b) for a in range(39) for b in range(a + 1, 39)]
CHAIN = [(a, a + 1) for a in range(38)]


def no_pairs(many):
    """Values of all kinds that are no pairs of events, of which there are 3 at least."""
    numbers = [-1, many, many + 1, 10 ** 30, True, False, None, "", "0", (), (0,), [], [0], Graph(1, [])]
    return [(number, 2) for number in numbers] + [(0, number) for number in numbers] + [
        None, True, 0, 1, "", "01", "0>1", (), (0,), (0, 1, 2), (0, 1, 1), [], [0, 1], [(0, 1)], ((0, 1),),
        ((0,), (1,)), (0, 0), (2, 2), Graph.path(2), DEEP,
    ]


def large_events():
    """Events with far more than 40 states."""
    return [
        Events(39, [], []), Events(6, [], []), Events(39, [(0, k) for k in range(1, 39)], []),
        Events(39, [(k, 0) for k in range(1, 39)], [(1, 2), (3, 4)]), Events(39, CHAIN[20:], []),
        Events(39, [], [(0, k) for k in range(1, 39)]), Events(38, [(a, a + 19) for a in range(19)], ALL_PAIRS[:9]),
    ]


class Making(Case):

    def test_attributes(self):
        self.assert_same(FORK.many, 5)
        self.assert_same(FORK.causes, tuple(CAUSES))
        self.assert_same(FORK.conflicts, tuple(CONFLICTS))
        self.assertLessEqual({"many", "causes", "conflicts"}, set(vars(FORK)))

    def test_lists_and_tuples_by_position_and_by_name(self):
        for many, causes, conflicts in event_sets():
            for made in (
                Events(many, list(causes), list(conflicts)), Events(many, tuple(causes), tuple(conflicts)),
                Events(conflicts=tuple(conflicts), causes=list(causes), many=many),
                Events(many, conflicts=conflicts, causes=tuple(causes)),
            ):
                self.assert_same(made.many, many)
                self.assert_same(made.causes, tuple(causes))
                self.assert_same(made.conflicts, tuple(conflicts))

    def test_the_edges(self):
        self.assert_same(Events(0, [], ()).many, 0)
        self.assert_same(Events(39, [], []).causes, ())
        self.assertEqual(len(Events(39, ALL_PAIRS, ALL_PAIRS).conflicts), 741)
        backwards = sorted((b, a) for a, b in ALL_PAIRS)
        self.assert_same(Events(39, backwards, []).causes, tuple(backwards))
        self.assert_same(Events(2, [(1, 0)], [(0, 1)]).causes, ((1, 0),))

    def test_later_changes_have_no_effect(self):
        causes, conflicts = list(CAUSES), list(CONFLICTS)
        events = Events(5, causes, conflicts)
        causes.append((4, 0))
        conflicts[0] = (1, 2)
        self.assert_same((events.causes, events.conflicts), (tuple(CAUSES), tuple(CONFLICTS)))
        self.assert_same(states(events), states(FORK))

    def test_arguments_stay_as_they_are(self):
        for many, causes, conflicts in event_sets():
            before = copy.deepcopy((causes, conflicts))
            Events(many, causes, conflicts)
            self.assert_same((causes, conflicts), before)

    def test_equality(self):
        for many, causes, conflicts in event_sets():
            one, other = Events(many, list(causes), conflicts), Events(many, tuple(causes), tuple(conflicts))
            self.assertIs(one == other, True)
            self.assertIs(one != other, False)
        unlike = [
            Events(0, [], []), Events(2, [], []), Events(3, [], []), Events(2, [(0, 1)], []), Events(2, [(1, 0)], []),
            Events(2, [], [(0, 1)]), Events(2, [(0, 1)], [(0, 1)]), FORK, Events(6, CAUSES, CONFLICTS),
        ]
        for one, other in combinations(unlike, 2):
            self.assertIs(one == other, False)
            self.assertIs(one != other, True)

    def test_other_kinds_are_not_equal(self):
        events = Events(2, [], [])
        for other in (None, True, 2, "", (), [], (2, (), ()), Words(2, [(0, 0)]), Graph.path(2), "events 2"):
            self.assertIs(events == other, False)
            self.assertIs(events != other, True)
            self.assertIs(other == events, False)


class WrongEvents(Case):

    def assert_wrong(self, part, place, many, causes, conflicts):
        before = copy.deepcopy((many, causes, conflicts))
        told = {"part": part, "place": place}
        self.assert_told(InvalidEvents, told, Events, many, causes, conflicts)
        self.assert_told(InvalidEvents, told, Events, conflicts=conflicts, many=many, causes=causes)
        self.assertEqual((many, causes, conflicts), before)

    def test_the_number(self):
        for many in no_numbers(0, 39):
            for causes, conflicts in (([], []), (CAUSES, CONFLICTS), (None, None), ([(0, 1), (1, 0)], [(1, 0)])):
                self.assert_wrong("many", 0, many, causes, conflicts)

    def test_what_is_no_sequence(self):
        for value in no_sequences():
            for conflicts in ([], None, [(1, 0)], value):
                self.assert_wrong("causes", 0, 5, value, conflicts)
            for causes in ([], CAUSES):
                self.assert_wrong("conflicts", 0, 5, causes, value)
            self.assert_wrong("cycle", 0, 5, [(0, 1), (1, 0)], value)

    def test_the_first_that_is_no_pair(self):
        for value in no_pairs(5):
            for place in range(3):
                for kind in (list, tuple):
                    causes = list(CAUSES)
                    causes[place] = value
                    self.assert_wrong("causes", place, 5, kind(causes), CONFLICTS)
            for place in range(2):
                for kind in (list, tuple):
                    conflicts = list(CONFLICTS)
                    conflicts[place] = value
                    self.assert_wrong("conflicts", place, 5, CAUSES, kind(conflicts))

    def test_causes_may_lead_to_lesser_events_but_conflicts_are_ascending(self):
        self.assert_same(Events(5, [(3, 0), (4, 1)], []).causes, ((3, 0), (4, 1)))
        self.assert_wrong("conflicts", 0, 5, [], [(1, 0)])
        self.assert_wrong("conflicts", 1, 5, [], [(0, 1), (4, 2)])
        self.assert_wrong("causes", 0, 5, [(2, 2)], [])
        self.assert_wrong("conflicts", 0, 5, [], [(2, 2)])

    def test_events_that_there_are_not(self):
        self.assert_wrong("causes", 0, 0, [(0, 1)], [])
        self.assert_wrong("causes", 0, 1, [(0, 0)], [])
        self.assert_wrong("causes", 1, 38, [(0, 1), (0, 38)], [])
        self.assert_wrong("conflicts", 1, 38, [], [(0, 1), (37, 38)])
        self.assert_same(Events(39, [(0, 1), (0, 38)], [(37, 38)]).many, 39)

    def test_the_first_that_is_not_after_the_one_before(self):
        for place in range(1, 3):
            causes = list(CAUSES)
            causes[place] = causes[place - 1]
            self.assert_wrong("causes", place, 5, causes, [])
            causes = list(CAUSES)
            causes[place - 1], causes[place] = causes[place], causes[place - 1]
            self.assert_wrong("causes", place, 5, causes, [])
        self.assert_wrong("conflicts", 1, 5, [], [(0, 4), (0, 4)])
        self.assert_wrong("conflicts", 2, 5, CAUSES, [(0, 1), (3, 4), (0, 4)])
        self.assert_wrong("conflicts", 740, 39, [], ALL_PAIRS[:740] + [ALL_PAIRS[0]])

    def test_causes_that_lead_an_event_back_to_itself(self):
        self.assert_wrong("cycle", 0, 2, [(0, 1), (1, 0)], [])
        self.assert_wrong("cycle", 0, 3, [(0, 1), (1, 2), (2, 0)], [(0, 1)])
        self.assert_wrong("cycle", 0, 5, [(0, 1), (2, 4), (3, 2), (4, 3)], [])
        self.assert_wrong("cycle", 0, 39, CHAIN + [(38, 0)], [])
        self.assert_wrong("cycle", 0, 39, CHAIN[:20] + [(20, 7)] + CHAIN[20:], [])
        for causes in combinations(sorted((a, b) for a, b in product(range(3), repeat=2) if a != b), 3):
            led = set(causes)
            for _ in range(3):
                led |= {(a, d) for a, b in led for c, d in led if b == c}
            if any(a == b for a, b in led):
                self.assert_wrong("cycle", 0, 3, list(causes), [])
            else:
                self.assert_same(Events(3, causes, []).causes, causes)

    def test_which_is_told_first(self):
        self.assert_wrong("many", 0, True, None, None)
        self.assert_wrong("causes", 0, 3, None, None)
        self.assert_wrong("causes", 2, 3, [(0, 1), (1, 0), (1, 0)], [(1, 0)])
        self.assert_wrong("cycle", 0, 3, [(0, 1), (1, 0)], None)
        self.assert_wrong("cycle", 0, 3, [(0, 1), (1, 0)], [(1, 0)])
        self.assert_wrong("conflicts", 1, 3, [(0, 1)], [(0, 1), (0, 1), None])


class States(Case):

    def test_many_events(self):
        large = 0
        for many, causes, conflicts in event_sets():
            events = Events(many, causes, conflicts)
            expected = states_of(many, causes, conflicts)
            if len(expected) > 40:
                large += 1
                self.assert_told(TooLarge, {"what": "states"}, states, events)
            else:
                self.assert_same(states(events), tuple(expected))
            never = [event for event in range(many) if not any(event in state for state in expected)]
            self.assert_same(impossible(events), tuple(never))
            for size in range(many + 1):
                for value in combinations(range(many), size):
                    self.assertIs(is_state(events, value), value in expected)
            self.assertEqual(events, Events(many, causes, conflicts))
        self.assertGreater(large, 0)

    def test_examples(self):
        self.assert_same(states(Events(2, [], [])), ((), (0,), (1,), (0, 1)))
        self.assert_same(states(Events(2, [(1, 0)], [])), ((), (1,), (0, 1)))
        self.assert_same(states(Events(2, [], [(0, 1)])), ((), (0,), (1,)))
        expected = ((), (0,), (1,), (4,), (0, 1), (1, 4), (0, 1, 2), (0, 1, 2, 3))
        self.assert_same(states(events=FORK), expected)
        self.assert_same(impossible(events=FORK), ())

    def test_no_events(self):
        none = Events(0, [], [])
        self.assert_same(states(none), ((),))
        self.assert_same(impossible(none), ())
        self.assertIs(is_state(none, ()), True)
        self.assertIs(is_state(none, (0,)), False)

    def test_exactly_40(self):
        chain = Events(39, CHAIN, [])
        self.assert_same(states(chain), tuple(tuple(range(k)) for k in range(40)))
        apart = Events(39, [], ALL_PAIRS)
        self.assert_same(states(apart), ((),) + tuple((k,) for k in range(39)))
        backwards = Events(39, sorted((b, a) for a, b in CHAIN), [])
        self.assert_same(states(backwards), tuple(tuple(range(39 - k, 39)) for k in range(40)))
        grid = Events(11, [(a, a + 1) for a in range(10) if a != 3], [])
        self.assertEqual(len(states(grid)), 40)
        self.assert_same(states(grid), tuple(states_of(11, grid.causes, [])))

    def test_just_more_than_40(self):
        # One event waits for the last but two instead of the last but one, so one state comes to the 40.
        causes = sorted(CHAIN[:-1] + [(36, 38)])
        self.assert_told(TooLarge, {"what": "states"}, states, Events(39, causes, []))
        self.assert_told(TooLarge, {"what": "states"}, states, Events(39, [], ALL_PAIRS[:-1]))
        self.assertEqual(len(states(Events(38, sorted(CHAIN[:-2] + [(35, 37)]), []))), 40)

    def test_far_more_than_40(self):
        for events in large_events():
            self.assert_told(TooLarge, {"what": "states"}, states, events)
            self.assert_told(TooLarge, {"what": "states"}, states, events=events)

    def test_impossible_events(self):
        # 2 needs 0 and 1, which are in conflict; 4 needs 2; 3 is in conflict with its own cause.
        events = Events(5, [(0, 2), (0, 3), (1, 2), (2, 4)], [(0, 1), (0, 3)])
        self.assert_same(impossible(events), (2, 3, 4))
        self.assert_same(states(events), ((), (0,), (1,)))
        self.assert_same(impossible(Events(39, CHAIN, [(0, 1)])), tuple(range(1, 39)))
        self.assert_same(impossible(Events(39, CHAIN, [(0, 38)])), (38,))
        self.assert_same(impossible(Events(39, [(36, 38), (37, 38)], [(36, 37)])), (38,))
        self.assert_same(impossible(Events(39, [(k, 38) for k in range(38)], [(17, 21)])), (38,))
        self.assert_same(impossible(Events(39, ALL_PAIRS, ALL_PAIRS)), tuple(range(1, 39)))
        for events in large_events()[:3] + large_events()[4:6]:
            self.assert_same(impossible(events), ())
        self.assert_same(impossible(large_events()[3]), (0,))

    def test_is_state_with_far_more_than_40(self):
        free = Events(39, [], [(0, 38)])
        self.assertIs(is_state(free, tuple(range(38))), True)
        self.assertIs(is_state(free, tuple(range(1, 39))), True)
        self.assertIs(is_state(free, tuple(range(39))), False)
        self.assertIs(is_state(free, tuple(range(40))), False)
        led = Events(39, [(0, k) for k in range(1, 39)], [])
        self.assertIs(is_state(led, tuple(range(0, 39, 2))), True)
        self.assertIs(is_state(led, tuple(range(1, 39, 2))), False)

    def test_is_state_for_any_value_at_all(self):
        for events in (FORK, Events(5, [], [])):
            for value in no_states(5):
                if value != (0,):
                    self.assertIs(is_state(events, value), False, repr(value))
            for value in ([], [0], [0, 1], (False,), (0, True), (True,), ("0",), (0, 1, 1), (1, 0), {}, ((),), (None,)):
                self.assertIs(is_state(value=value, events=events), False)
            self.assertIs(is_state(value=(0, 1), events=events), True)
        self.assertIs(is_state(Events(0, [], []), None), False)
        self.assertIs(is_state(Events(0, [], []), []), False)
        self.assertIs(is_state(Events(39, [], []), tuple(range(1500))), False)

    def test_the_same_question_again(self):
        one, other = Events(2, [(0, 1)], []), Events(2, [(1, 0)], [])
        for _ in range(3):
            self.assert_same(states(one), ((), (0,), (0, 1)))
            self.assert_same(states(other), ((), (1,), (0, 1)))
            self.assertIs(is_state(one, (1,)), False)
            self.assertIs(is_state(other, (1,)), True)


class Merging(Case):

    def assert_merged(self, events, one, other):
        """Exactly one of the two functions is defined, and tells what the words of the document say."""
        both = tuple(sorted(set(one) | set(other)))
        pairs = [(a, b) for a in one for b in other if (min(a, b), max(a, b)) in events.conflicts]
        if pairs:
            self.assert_same(conflict(events, one, other), pairs[0])
            self.assert_told(Undefined, {"what": "state"}, merged, events, one, other)
        else:
            self.assert_same(merged(events, one, other), both)
            self.assert_told(Undefined, {"what": "conflict"}, conflict, events, one, other)
        self.assertIs(is_state(events, both), not pairs)
        return pairs

    def test_many_events(self):
        found = []
        for many, causes, conflicts in event_sets():
            events = Events(many, causes, conflicts)
            some = states_of(many, causes, conflicts)
            for one, other in product(some[:9] + some[-5:], repeat=2):
                found.append(self.assert_merged(events, one, other))
            self.assertEqual(events, Events(many, causes, conflicts))
        self.assertGreater(len([pairs for pairs in found if len(pairs) > 1]), 20)

    def test_examples(self):
        self.assert_same(merged(FORK, (0,), (1,)), (0, 1))
        self.assert_same(merged(one=(1, 4), other=(4,), events=FORK), (1, 4))
        self.assert_same(conflict(FORK, (1, 4), (0, 1, 2, 3)), (4, 0))
        self.assert_same(conflict(events=FORK, other=(1, 4), one=(0, 1, 2, 3)), (0, 4))
        self.assert_told(Undefined, {"what": "state"}, merged, FORK, (0,), (4,))
        self.assert_told(Undefined, {"what": "conflict"}, conflict, FORK, (), (4,))
        self.assert_same(merged(Events(0, [], []), (), ()), ())

    def test_the_first_pair(self):
        events = Events(6, [], [(0, 5), (1, 3), (2, 3), (2, 4)])
        self.assert_same(conflict(events, (1, 2), (3, 4)), (1, 3))
        self.assert_same(conflict(events, (3, 4), (1, 2)), (3, 1))
        self.assert_same(conflict(events, (2,), (3, 4)), (2, 3))
        self.assert_same(conflict(events, (3, 4, 5), (0, 1, 2)), (3, 1))

    def test_far_more_than_40_states(self):
        free = Events(39, [], [(0, 38), (5, 38)])
        self.assert_same(merged(free, tuple(range(20)), tuple(range(10, 38))), tuple(range(38)))
        self.assert_same(conflict(free, (38,), tuple(range(20))), (38, 0))
        self.assert_same(conflict(free, tuple(range(1, 20)), (30, 38)), (5, 38))
        self.assert_told(Undefined, {"what": "state"}, merged, free, (38,), tuple(range(20)))
        self.assert_told(Undefined, {"what": "conflict"}, conflict, free, tuple(range(20)), tuple(range(10, 38)))

    def test_what_is_no_state(self):
        events = Events(5, CAUSES, CONFLICTS)
        wrong = [value for value in no_states(5) if value != (0,)] + [(2,), (0, 2), (3,), (0, 4), (0, 1, 3), (2, 3, 4)]
        for call in (merged, conflict):
            for value in wrong:
                self.assert_refused(InvalidState, call, events, (), value)
                self.assert_refused(InvalidState, call, events, (4,), value)
                self.assert_refused(InvalidState, call, other=(0,), events=events, one=value)
                self.assert_refused(InvalidState, call, events=events, other=None, one=value)

    def test_the_first_is_told(self):
        for call in (merged, conflict):
            self.assert_told(InvalidState, {"value": (2,)}, call, FORK, (2,), (3,))
            self.assert_told(InvalidState, {"value": [0]}, call, FORK, (0,), [0])
            self.assert_told(InvalidState, {"value": None}, call, FORK, other=(2,), one=None)

    def test_the_same_question_again(self):
        other = Events(5, [], [])
        for _ in range(3):
            self.assert_told(Undefined, {"what": "state"}, merged, FORK, (0,), (4,))
            self.assert_same(merged(other, (0,), (4,)), (0, 4))
            self.assert_same(conflict(FORK, (0,), (4,)), (0, 4))
            self.assert_told(Undefined, {"what": "conflict"}, conflict, other, (0,), (4,))


if __name__ == "__main__":
    unittest.main()
