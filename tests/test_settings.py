"""Point [17]: settings, contradictions and what follows."""

import unittest
from itertools import combinations, product

from helper import (
    Case, all_words, clause_sets, clauses_of, is_true_in, literals_of, majority_of, no_clauses, outcome, settings_of,
    single_letters, step_clauses, steps_of,
)
from middlewebs.clauses import Clauses, holds
from middlewebs.errors import InvalidClause, TooLarge, Undefined
from middlewebs.graphs import Graph
from middlewebs.settings import clauses_words, contradiction, follows, is_contradiction, settings
from middlewebs.words import Words, is_closed

NEVER = Clauses(1, [((0, 0),), ((0, 1),)])
SQUARES = [((0, 0), (1, 0)), ((0, 0), (1, 1)), ((0, 1), (1, 0)), ((0, 1), (1, 1))]


def leads_to(clauses, x, y):
    """By the words of the document: whether one clause is the opposite of x, and y, or y alone, x its opposite."""
    opposite = (x[0], 1 - x[1])
    both = clauses.clauses
    return (opposite, y) in both or (y, opposite) in both or ((y,) in both and opposite == y)


def contradicts(clauses, value):
    """Whether a tuple of literals is a contradiction, by the words of the document."""
    if not value or value[0] != value[-1] or (value[0][0], 1 - value[0][1]) not in value:
        return False
    return all(leads_to(clauses, x, y) for x, y in zip(value, value[1:]))


def chained(letters, ends):
    """Each letter leads from 1 to 1 of the next one, the last one from 1 to 0 of the first, and these ends further."""
    steps = [((k, 0), (k + 1, 1)) for k in range(letters - 1)]
    return Clauses(letters, sorted(steps + [((0, 0), (letters - 1, 0))] + ends))


def contradicted_far():
    """Clauses of 39 letters that hold for no word, with as far a way round as these tests know."""
    return chained(39, [((0, 1), (38, 1)), ((0, 1), (38, 0))])


def large_clauses():
    """Clauses for many letters with far more than 40 settings."""
    return [
        Clauses(39, []), Clauses(6, []), Clauses(39, [((0, 1),)]), Clauses(39, step_clauses(30)),
        Clauses(39, [((k, 0), (k + 1, 0)) for k in range(38)]), Clauses(38, [((k, 1),) for k in range(0, 38, 2)]),
        Clauses(39, [clause for clause in clauses_of(39) if all(bit == 1 for _, bit in clause)][::3]),
        Clauses(39, [pair for pair in clauses_of(20) if len(pair) == 2 and pair[0][1] == 0 and pair[1][1] == 0]),
    ]


class Settings(Case):

    def assert_settings(self, letters, some):
        clauses = Clauses(letters, some)
        expected = settings_of(letters, some)
        self.assert_same(settings(clauses), tuple(expected))
        if expected:
            self.assert_same(clauses_words(clauses), Words(letters, expected))
            self.assert_same(clauses_words(clauses).words, tuple(expected))
        else:
            self.assert_told(Undefined, {"what": "settings"}, clauses_words, clauses)
        self.assertEqual(clauses, Clauses(letters, some))
        return expected

    def assert_too_large(self, clauses):
        for call in (settings, clauses_words):
            self.assert_told(TooLarge, {"what": "settings"}, call, clauses)
            self.assert_told(TooLarge, {"what": "settings"}, call, clauses=clauses)

    def test_many_clauses(self):
        found = [self.assert_settings(letters, some) for letters, some in clause_sets()]
        self.assertGreater(found.count([]), 30)
        self.assertGreater(len(found) - found.count([]), 60)

    def test_all_clauses_of_two_letters(self):
        every = clauses_of(2)
        for bits in range(2 ** len(every)):
            self.assert_settings(2, [clause for k, clause in enumerate(every) if bits >> k & 1])

    def test_they_are_closed_under_majority(self):
        for letters, some in clause_sets():
            found = settings(Clauses(letters, some))
            for three in combinations(found[:12], 3):
                self.assertIn(majority_of(*three), found)
            if found:
                self.assertIs(is_closed(clauses_words(Clauses(letters, some))), True)

    def test_no_letters_and_no_clauses(self):
        self.assert_same(settings(Clauses(0, [])), ((),))
        self.assert_same(settings(clauses=Clauses(0, [])), ((),))
        self.assert_same(clauses_words(clauses=Clauses(0, [])), Words(0, [()]))
        self.assert_same(settings(Clauses(5, [])), tuple(all_words(5)))

    def test_no_settings(self):
        self.assert_same(settings(NEVER), ())
        self.assert_told(Undefined, {"what": "settings"}, clauses_words, NEVER)
        self.assert_same(settings(Clauses(39, clauses_of(39))), ())
        self.assert_told(Undefined, {"what": "settings"}, clauses_words, Clauses(39, SQUARES))
        self.assert_same(settings(contradicted_far()), ())

    def test_exactly_40(self):
        steps = Clauses(39, step_clauses(39))
        self.assert_same(settings(steps), tuple(steps_of(39)))
        self.assert_same(clauses_words(steps), Words(39, steps_of(39)))
        star = Clauses(39, [((a, 0), (b, 0)) for a in range(39) for b in range(a + 1, 39)])
        self.assert_same(settings(star), ((0,) * 39,) + tuple(single_letters(39)))
        grid = Clauses(11, step_clauses(4) + [((k + 4, 1), (k + 5, 0)) for k in range(6)])
        self.assert_same(settings(grid), tuple(sorted(one + other for one in steps_of(4) for other in steps_of(7))))
        self.assertEqual(len(settings(grid)), 40)

    def test_just_more_than_40(self):
        # The last letter waits for the last but two instead of the last but one, so one word comes to the 40.
        clauses = Clauses(39, step_clauses(38) + [((36, 1), (38, 0))])
        steps = steps_of(38)
        expected = [word + (0,) for word in steps] + [word + (1,) for word in steps if word[36] == 1]
        self.assertEqual(len(expected), 41)
        self.assertTrue(all(holds(clauses, word) for word in expected))
        self.assert_too_large(clauses)
        self.assert_too_large(Clauses(6, []))
        self.assert_too_large(Clauses(11, step_clauses(4)[1:] + [((k + 4, 1), (k + 5, 0)) for k in range(6)]))

    def test_few_words_of_many_letters(self):
        fixed = [((k, k % 2),) for k in range(39)]
        self.assert_same(settings(Clauses(39, fixed)), (tuple(k % 2 for k in range(39)),))
        free = [fixed[k] for k in range(39) if k not in (7, 20)]
        expected = tuple(
            tuple(a if k == 7 else b if k == 20 else k % 2 for k in range(39)) for a in (0, 1) for b in (0, 1)
        )
        self.assert_same(settings(Clauses(39, free)), expected)
        linked = sorted([((k, 0), (k + 1, 1)) for k in range(38)] + step_clauses(39))
        self.assert_same(settings(Clauses(39, linked)), ((0,) * 39, (1,) * 39))
        self.assert_same(settings(Clauses(39, sorted(linked + [((20, 1),)]))), ((1,) * 39,))

    def test_far_more_than_40(self):
        for clauses in large_clauses():
            self.assert_too_large(clauses)

    def test_the_same_question_again(self):
        one, other = Clauses(2, [((0, 1),)]), Clauses(2, [((0, 0),)])
        first, between = settings(one), settings(other)
        self.assert_same(first, ((1, 0), (1, 1)))
        self.assert_same(between, ((0, 0), (0, 1)))
        self.assert_same(settings(one), first)
        self.assert_same(clauses_words(one).words, first)
        self.assert_same(settings(Clauses(2, (((0, 0),),))), between)


class Contradictions(Case):

    def assert_contradiction(self, clauses):
        value = contradiction(clauses)
        self.assertIsInstance(value, tuple)
        for literal in value:
            self.assert_same((len(literal),) + literal, (2, int(literal[0]), int(literal[1])))
        self.assertIs(contradicts(clauses, value), True)
        self.assertIs(is_contradiction(clauses, value), True)
        self.assertLessEqual(len(value), 4 * clauses.letters + 1)
        self.assert_same(contradiction(Clauses(clauses.letters, list(clauses.clauses))), value)
        return value

    def test_exactly_one_is_defined(self):
        for letters, some in clause_sets():
            clauses = Clauses(letters, some)
            if settings_of(letters, some):
                self.assert_told(Undefined, {"what": "contradiction"}, contradiction, clauses)
            else:
                self.assert_contradiction(clauses)
            self.assertEqual(clauses, Clauses(letters, some))

    def test_all_clauses_of_two_letters(self):
        every = clauses_of(2)
        for bits in range(2 ** len(every)):
            some = [clause for k, clause in enumerate(every) if bits >> k & 1]
            told = outcome(contradiction, Clauses(2, some))
            self.assertEqual(told[0] == "returned", settings_of(2, some) == [])

    def test_one_letter(self):
        self.assertIn(self.assert_contradiction(NEVER), [((0, 0), (0, 1), (0, 0)), ((0, 1), (0, 0), (0, 1))])
        self.assert_told(Undefined, {"what": "contradiction"}, contradiction, clauses=Clauses(0, []))
        self.assert_told(Undefined, {"what": "contradiction"}, contradiction, Clauses(1, [((0, 1),)]))

    def test_many_letters(self):
        for letters in (2, 3, 10, 38, 39):
            far = chained(letters, [((0, 1), (letters - 1, 1)), ((0, 1), (letters - 1, 0))])
            self.assertGreater(len(self.assert_contradiction(far)), letters)
        self.assertIs(is_contradiction(clauses=contradicted_far(), value=contradiction(contradicted_far())), True)
        self.assert_contradiction(Clauses(39, clauses_of(39)))
        self.assert_contradiction(Clauses(39, clauses_of(39)[:1500]))
        last = [tuple((k + 37, bit) for k, bit in clause) for clause in SQUARES]
        self.assert_contradiction(Clauses(39, step_clauses(37) + last))

    def test_settings_far_above_40(self):
        for clauses in large_clauses():
            self.assert_told(Undefined, {"what": "contradiction"}, contradiction, clauses)
            self.assertIs(is_contradiction(clauses, ((0, 1), (0, 0), (0, 1))), False)

    def test_the_judge_with_all_short_tuples(self):
        for letters, some in [(1, clauses_of(1)), (2, SQUARES), (2, clauses_of(2)), (2, clauses_of(2)[::2])]:
            clauses = Clauses(letters, some)
            for many in range(6):
                for value in product(literals_of(letters), repeat=many):
                    self.assertIs(is_contradiction(clauses, value), contradicts(clauses, value))

    def test_the_judge_with_changed_contradictions(self):
        for letters, some in clause_sets():
            clauses = Clauses(letters, some)
            told = outcome(contradiction, clauses)
            if told[0] != "returned":
                continue
            value = told[1]
            for place in range(len(value)):
                without = value[:place] + value[place + 1:]
                self.assertIs(is_contradiction(clauses, without), contradicts(clauses, without))
                twice = value[:place] + value[place:place + 1] + value[place:]
                self.assertIs(is_contradiction(clauses, twice), False)
                for literal in literals_of(letters):
                    other = value[:place] + (literal,) + value[place + 1:]
                    self.assertIs(is_contradiction(clauses, other), contradicts(clauses, other))
                turned = value[place:-1] + value[:place + 1]
                self.assertIs(is_contradiction(clauses, turned), contradicts(clauses, turned))
            self.assertIs(is_contradiction(clauses, value + value[1:]), True)

    def test_a_way_back_without_the_opposite_is_none(self):
        linked = Clauses(2, [((0, 0), (1, 1)), ((0, 1), (1, 0))])
        self.assertIs(is_contradiction(linked, ((0, 1), (1, 1), (0, 1))), False)
        self.assertIs(is_contradiction(linked, ((0, 1),)), False)
        self.assertIs(is_contradiction(linked, ()), False)
        self.assertIs(is_contradiction(NEVER, ((0, 1),)), False)
        self.assertIs(is_contradiction(NEVER, ((0, 1), (0, 0))), False)

    def test_any_value_at_all(self):
        for value in (((0, 0), (0, 1), (0, 0)), ((0, 1), (0, 0), (0, 1)), ((0, 1), (0, 0)) * 749 + ((0, 1),)):
            self.assertIs(is_contradiction(NEVER, value), True)
        wrong = [
            None, True, False, 0, 1, -1, 10 ** 30, "", "0", "!0 0 !0", (), [], [()], ((),), ((), (), ()), (0, 1, 0),
            [(0, 1), (0, 0), (0, 1)], ([0, 1], [0, 0], [0, 1]), ((0, 1), [0, 0], (0, 1)), (("0", 1), ("0", 0), ("0", 1)),
            ((False, 1), (False, 0), (False, 1)), ((0, True), (0, False), (0, True)), ((0, 1), (0, False), (0, 1)),
            ((0, 1), (0, 0), (0, True)), ((False, 1), (0, 0), (0, 1)), ((0, 1), (0, 0), (0, 1), None),
            ((1, 1), (1, 0), (1, 1)), ((-1, 1), (-1, 0), (-1, 1)), ((0, 2), (0, -1), (0, 2)), ((0, 0), (0, 1), (0, 2)),
            ((0, 1, 0), (0, 0, 0), (0, 1, 0)), ((0,), (0,), (0,)), (((0, 1),), ((0, 0),), ((0, 1),)), NEVER, Graph.path(2),
            (NEVER, NEVER, NEVER), ((((((((((0,),),),),),),),),),), ((0, 1), (0, 0), (0, 1)) * 2, (10 ** 30, 0),
        ]
        for value in wrong:
            self.assertIs(is_contradiction(NEVER, value), False, repr(value))
            self.assertIs(is_contradiction(value=value, clauses=Clauses(0, [])), False)
            self.assertIs(is_contradiction(Clauses(2, SQUARES), value), False)

    def test_the_same_question_again(self):
        one, other = NEVER, Clauses(2, SQUARES)
        first, between = contradiction(one), contradiction(other)
        self.assertIs(is_contradiction(other, first), False)
        self.assertIs(is_contradiction(one, between), False)
        self.assert_same(contradiction(one), first)
        self.assert_same(contradiction(clauses=other), between)


class Following(Case):

    def test_many_clauses(self):
        for letters, some in clause_sets():
            clauses = Clauses(letters, some)
            found = settings_of(letters, some)
            for clause in clauses_of(letters):
                self.assertIs(follows(clauses, clause), all(is_true_in(clause, word) for word in found))
            self.assertEqual(clauses, Clauses(letters, some))

    def test_all_clauses_of_two_letters(self):
        every = clauses_of(2)
        for bits in range(2 ** len(every)):
            some = [clause for k, clause in enumerate(every) if bits >> k & 1]
            found = settings_of(2, some)
            for clause in every:
                self.assertIs(follows(Clauses(2, some), clause), all(is_true_in(clause, word) for word in found))

    def test_everything_follows_where_there_is_no_word(self):
        for clauses in (Clauses(39, SQUARES), contradicted_far(), Clauses(39, clauses_of(39))):
            for clause in clauses_of(39)[::7]:
                self.assertIs(follows(clauses, clause), True)
        self.assertIs(follows(clauses=NEVER, clause=((0, 1),)), True)

    def test_settings_far_above_40(self):
        for clauses in large_clauses():
            for clause in clauses.clauses[::20]:
                self.assertIs(follows(clauses, clause), True)
        steps = Clauses(39, step_clauses(38))
        for a, b in combinations(range(0, 38, 5), 2):
            self.assertIs(follows(steps, ((a, 1), (b, 0))), True)
            self.assertIs(follows(steps, ((a, 0), (b, 1))), False)
            self.assertIs(follows(steps, ((a, 0), (b, 0))), False)
            self.assertIs(follows(clause=((a, 1),), clauses=steps), False)
            self.assertIs(follows(steps, ((a, 1), (38, 0))), False)
        fixed = Clauses(39, sorted(step_clauses(38) + [((20, 1),)]))
        for k in range(39):
            self.assertIs(follows(fixed, ((k, 1),)), k <= 20)
            self.assertIs(follows(fixed, ((k, 0),)), False)
            if k != 20:
                self.assertIs(follows(fixed, tuple(sorted([(k, 0), (20, 1)]))), True)
        for clause in clauses_of(39)[::5]:
            self.assertIs(follows(Clauses(39, []), clause), False)

    def test_what_is_no_clause(self):
        for clauses in (Clauses(3, []), Clauses(3, [((0, 1),)]), Clauses(3, clauses_of(3))):
            for value in no_clauses(3):
                self.assert_refused(InvalidClause, follows, clauses, value)
                self.assert_refused(InvalidClause, follows, clauses=clauses, clause=value)
        for value in (((0, 0),), (), None, [], ((),), "0"):
            self.assert_refused(InvalidClause, follows, Clauses(0, []), value)
        self.assert_refused(InvalidClause, follows, Clauses(39, []), ((39, 0),))
        self.assert_refused(InvalidClause, follows, Clauses(38, []), ((0, 0), (38, 0)))

    def test_the_same_question_again(self):
        one, other = Clauses(2, [((0, 1),)]), Clauses(2, [((0, 0),)])
        for _ in range(3):
            self.assertIs(follows(one, ((0, 1), (1, 0))), True)
            self.assertIs(follows(other, ((0, 1), (1, 0))), False)


if __name__ == "__main__":
    unittest.main()
