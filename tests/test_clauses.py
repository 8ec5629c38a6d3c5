"""Point [16]: literals, clauses and the words in which they are true."""

import copy
import unittest
from itertools import combinations

from helper import (
    Case, all_words, clause_sets, clauses_of, is_true_in, no_clauses, no_numbers, no_sequences, no_words, step_clauses,
    steps_of,
)
from middlewebs.clauses import Clauses, holds
from middlewebs.errors import InvalidClauses, InvalidWord
from middlewebs.graphs import Graph
from middlewebs.words import Words

SOME = [((0, 0),), ((0, 1), (1, 0)), ((0, 1), (2, 1)), ((1, 0), (2, 0)), ((2, 1),)]


class Making(Case):

    def test_attributes(self):
        clauses = Clauses(3, SOME)
        self.assert_same(clauses.letters, 3)
        self.assert_same(clauses.clauses, tuple(SOME))
        self.assertLessEqual({"letters", "clauses"}, set(vars(clauses)))

    def test_lists_and_tuples_by_position_and_by_name(self):
        for letters, some in clause_sets():
            for sequence in (list(some), tuple(some)):
                for made in (
                    Clauses(letters, sequence), Clauses(letters, clauses=sequence),
                    Clauses(clauses=sequence, letters=letters),
                ):
                    self.assert_same(made.letters, letters)
                    self.assert_same(made.clauses, tuple(some))

    def test_the_edges(self):
        self.assert_same(Clauses(0, []).clauses, ())
        self.assert_same(Clauses(0, ()).letters, 0)
        self.assert_same(Clauses(39, []).letters, 39)
        self.assert_same(Clauses(1, clauses_of(1)).clauses, (((0, 0),), ((0, 1),)))
        every = clauses_of(39)
        self.assertEqual(len(every), 78 + 4 * 741)
        for some in (every, every[:1500], every[-1500:]):
            self.assertEqual(Clauses(39, some).clauses, tuple(some))

    def test_later_changes_have_no_effect(self):
        sequence = list(SOME)
        clauses = Clauses(3, sequence)
        sequence[0] = ((2, 0),)
        sequence.append(((2, 1),))
        self.assert_same(clauses.clauses, tuple(SOME))
        self.assertIs(holds(clauses, (0, 0, 1)), True)

    def test_arguments_stay_as_they_are(self):
        for letters, some in clause_sets():
            before = copy.deepcopy(some)
            Clauses(letters, some)
            self.assert_same(some, before)

    def test_equality(self):
        for letters, some in clause_sets():
            self.assertIs(Clauses(letters, list(some)) == Clauses(letters, tuple(some)), True)
            self.assertIs(Clauses(letters, list(some)) != Clauses(letters, tuple(some)), False)
        unlike = [
            Clauses(0, []), Clauses(1, []), Clauses(3, []), Clauses(3, SOME), Clauses(4, SOME), Clauses(3, SOME[1:]),
            Clauses(1, [((0, 0),)]), Clauses(1, [((0, 1),)]), Clauses(2, [((0, 0), (1, 0))]), Clauses(1, clauses_of(1)),
        ]
        for one, other in combinations(unlike, 2):
            self.assertIs(one == other, False)
            self.assertIs(one != other, True)

    def test_other_kinds_are_not_equal(self):
        clauses = Clauses(2, [])
        for other in (None, True, 2, "", (), [], (2, ()), Words(2, [(0, 0)]), Graph.path(2), "clauses 2"):
            self.assertIs(clauses == other, False)
            self.assertIs(clauses != other, True)
            self.assertIs(other == clauses, False)


class WrongClauses(Case):

    def assert_wrong(self, part, place, letters, clauses):
        before = copy.deepcopy((letters, clauses))
        told = {"part": part, "place": place}
        self.assert_told(InvalidClauses, told, Clauses, letters, clauses)
        self.assert_told(InvalidClauses, told, Clauses, clauses=clauses, letters=letters)
        self.assertEqual((letters, clauses), before)

    def test_the_number_of_letters(self):
        for letters in no_numbers(0, 39):
            for clauses in ([], [((0, 0),)], None, [((39, 0),)], "clauses"):
                self.assert_wrong("letters", 0, letters, clauses)

    def test_what_is_no_sequence(self):
        for letters in (0, 1, 3, 39):
            for clauses in no_sequences():
                self.assert_wrong("clauses", 0, letters, clauses)
        self.assert_wrong("clauses", 0, 3, Clauses(3, SOME))

    def test_the_first_that_is_no_clause(self):
        for value in no_clauses(3):
            self.assert_wrong("clauses", 0, 3, [value])
            for place in range(len(SOME)):
                for kind in (list, tuple):
                    clauses = list(SOME)
                    clauses[place] = value
                    self.assert_wrong("clauses", place, 3, kind(clauses))
            self.assert_wrong("clauses", 5, 3, SOME + [value])

    def test_clauses_for_more_letters(self):
        self.assert_wrong("clauses", 0, 0, [((0, 0),)])
        self.assert_wrong("clauses", 0, 0, [()])
        for letters in (1, 2, 5, 38):
            right = clauses_of(letters)
            for wrong in (((letters, 0),), ((0, 1), (letters, 1)), ((letters - 1, 1), (letters, 0))):
                self.assert_wrong("clauses", 0, letters, [wrong])
                self.assert_wrong("clauses", len(right), letters, right + [wrong])
                self.assertEqual(Clauses(letters + 1, [wrong]).clauses, (wrong,))

    def test_the_first_that_is_not_after_the_one_before(self):
        for place in range(1, len(SOME)):
            clauses = list(SOME)
            clauses[place] = clauses[place - 1]
            self.assert_wrong("clauses", place, 3, clauses)
            clauses = list(SOME)
            clauses[place - 1], clauses[place] = clauses[place], clauses[place - 1]
            self.assert_wrong("clauses", place, 3, clauses)
        # A clause stands ahead of those that go on behind it.
        self.assert_wrong("clauses", 1, 2, [((0, 0), (1, 0)), ((0, 0),)])
        self.assert_same(Clauses(2, [((0, 0),), ((0, 0), (1, 0))]).clauses, (((0, 0),), ((0, 0), (1, 0))))

    def test_the_first_of_several_is_told(self):
        self.assert_wrong("clauses", 1, 3, [((0, 0),), ((0, 0),), None, ((3, 0),)])
        self.assert_wrong("clauses", 2, 3, [((0, 0),), ((0, 1),), [(1, 0)], ((0, 0),)])
        self.assert_wrong("clauses", 1499, 39, clauses_of(39)[:1499] + [((0, 0),)])


class Holding(Case):

    def test_many_clauses(self):
        for letters, some in clause_sets():
            clauses = Clauses(letters, some)
            for word in all_words(letters):
                self.assertIs(holds(clauses, word), all(is_true_in(clause, word) for clause in some))
            self.assertEqual(clauses, Clauses(letters, some))

    def test_each_clause_alone(self):
        for clause in clauses_of(3):
            for word in all_words(3):
                self.assertIs(holds(Clauses(3, [clause]), word), is_true_in(clause, word))

    def test_no_letters_and_no_clauses(self):
        self.assertIs(holds(Clauses(0, []), ()), True)
        self.assertIs(holds(word=(), clauses=Clauses(0, ())), True)
        for word in all_words(4):
            self.assertIs(holds(Clauses(4, []), word), True)

    def test_39_letters(self):
        clauses = Clauses(39, step_clauses(39))
        for word in steps_of(39):
            self.assertIs(holds(clauses, word), True)
        for k in range(38):
            self.assertIs(holds(clauses, (0,) * (k + 1) + (1,) + (0,) * (37 - k)), False)
        self.assertIs(holds(Clauses(39, clauses_of(39)), (0,) * 39), False)
        self.assertIs(holds(word=(1,) * 39, clauses=Clauses(39, [((38, 1),)])), True)

    def test_what_is_no_word_of_so_many_letters(self):
        for clauses in (Clauses(2, []), Clauses(2, [((0, 1),)]), Clauses(2, clauses_of(2))):
            for value in no_words(2):
                self.assert_refused(InvalidWord, holds, clauses, value)
                self.assert_refused(InvalidWord, holds, clauses=clauses, word=value)
        for word in ((0,), [], None, ((),), (0,) * 40, False):
            self.assert_refused(InvalidWord, holds, Clauses(0, []), word)
        for word in ((0,) * 38, (0,) * 40, (), (True,) * 39):
            self.assert_refused(InvalidWord, holds, Clauses(39, []), word)

    def test_the_same_question_again(self):
        one, other = Clauses(2, [((0, 1),)]), Clauses(2, [((0, 0),)])
        for _ in range(3):
            self.assertIs(holds(one, (0, 1)), False)
            self.assertIs(holds(other, (0, 1)), True)


if __name__ == "__main__":
    unittest.main()
