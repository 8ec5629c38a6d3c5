"""Point [18]: the clauses of words, the further word, and clauses without needless ones."""

import unittest
from itertools import combinations

from helper import (
    Case, all_words, clause_sets, clauses_of, is_true_in, literals_of, settings_of, single_letters, step_clauses,
    steps_of, word_sets,
)
from middlewebs.clauses import Clauses, holds
from middlewebs.errors import TooLarge, Undefined
from middlewebs.settings import clauses_words, follows, settings
from middlewebs.wordclauses import further_word, spared, words_clauses
from middlewebs.words import Words, closed, is_closed

SQUARES = [((0, 0), (1, 0)), ((0, 0), (1, 1)), ((0, 1), (1, 0)), ((0, 1), (1, 1))]
ALL_BUT_ONE = [(0, 0), (0, 1), (1, 0)]


def clauses_by_hand(length, some):
    """The clauses of the words, ascending, by the words of the document."""
    alone = [(one,) for one in literals_of(length) if all(is_true_in((one,), word) for word in some)]
    others = [one for one in literals_of(length) if (one,) not in alone]
    pairs = [(one, other) for one, other in combinations(others, 2) if one[0] != other[0]]
    return sorted(alone + [pair for pair in pairs if all(is_true_in(pair, word) for word in some)])


def spared_by_hand(letters, some):
    """What is left when, from the last clause on, each is left out that follows from the others left."""
    left = list(some)
    for clause in reversed(some):
        others = [other for other in left if other != clause]
        if all(is_true_in(clause, word) for word in settings_of(letters, others)):
            left = others
    return left


class ClausesOfWords(Case):

    def test_many_words(self):
        for length, some in word_sets():
            words = Words(length, some)
            found = words_clauses(words)
            self.assertIsInstance(found, Clauses)
            self.assert_same((found.letters, found.clauses), (length, tuple(clauses_by_hand(length, some))))
            self.assertEqual(words, Words(length, some))

    def test_all_words_of_two_letters(self):
        for many in range(1, 5):
            for some in combinations(all_words(2), many):
                found = words_clauses(words=Words(2, some))
                self.assert_same(found.clauses, tuple(clauses_by_hand(2, some)))

    def test_examples(self):
        self.assert_same(words_clauses(Words(2, all_words(2))), Clauses(2, []))
        self.assert_same(words_clauses(Words(2, ALL_BUT_ONE)), Clauses(2, [((0, 0), (1, 0))]))
        self.assert_same(words_clauses(Words(2, [(0, 1)])), Clauses(2, [((0, 0),), ((1, 1),)]))
        # One literal is true in all words, so it stands in no clause of two.
        self.assert_same(words_clauses(Words(2, [(0, 1), (1, 1)])), Clauses(2, [((1, 1),)]))
        linked = Clauses(2, [((0, 0), (1, 1)), ((0, 1), (1, 0))])
        self.assert_same(words_clauses(Words(2, [(0, 0), (1, 1)])), linked)

    def test_the_word_of_no_letters(self):
        self.assert_same(words_clauses(Words(0, [()])), Clauses(0, []))
        self.assert_told(Undefined, {"what": "word"}, further_word, Words(0, [()]))

    def test_one_word_alone(self):
        for word in ((0,), (1, 0, 1), (0, 1) * 19 + (1,)):
            words = Words(len(word), [word])
            expected = tuple(((k, letter),) for k, letter in enumerate(word))
            self.assert_same(words_clauses(words).clauses, expected)
            self.assert_told(Undefined, {"what": "word"}, further_word, words)

    def test_39_letters(self):
        steps = words_clauses(Words(39, steps_of(39)))
        self.assert_same(steps.clauses, tuple(((a, 1), (b, 0)) for a in range(39) for b in range(a + 1, 39)))
        star = words_clauses(Words(39, [(0,) * 39] + single_letters(39)))
        self.assert_same(star.clauses, tuple(((a, 0), (b, 0)) for a in range(39) for b in range(a + 1, 39)))
        pair = words_clauses(Words(39, [(0,) * 39, (1,) * 39]))
        self.assertEqual(len(pair.clauses), 2 * 741)

    def test_closed_words_are_the_settings_of_their_clauses(self):
        for length, some in word_sets():
            words = closed(Words(length, some))
            self.assert_same(clauses_words(words_clauses(words)), words)
            # A word is added only where majority does not add it; both have the same clauses.
            self.assert_same(words_clauses(Words(length, some)), words_clauses(words))
        for some in (steps_of(39), [(0,) * 39] + single_letters(39), [(0,) * 39, (1,) * 39]):
            self.assert_same(clauses_words(words_clauses(Words(39, some))), Words(39, some))

    def test_settings_have_clauses_that_hold_for_them_alone(self):
        for letters, some in clause_sets():
            found = settings_of(letters, some)
            if found:
                self.assert_same(settings(words_clauses(Words(letters, found))), tuple(found))

    def test_the_same_question_again(self):
        one, other = Words(2, ALL_BUT_ONE), Words(2, [(0, 1), (1, 1)])
        first, between = words_clauses(one), words_clauses(other)
        self.assertNotEqual(first, between)
        self.assert_same(words_clauses(one), first)
        self.assert_same(words_clauses(Words(2, ((0, 1), (1, 1)))), between)


class FurtherWord(Case):

    def assert_further(self, length, some):
        words = Words(length, some)
        clauses = clauses_by_hand(length, some)
        further = [word for word in settings_of(length, clauses) if word not in some]
        if further:
            self.assert_same(further_word(words), further[0])
        else:
            self.assert_told(Undefined, {"what": "word"}, further_word, words)
        self.assertIs(is_closed(words), further == [])
        self.assertEqual(words, Words(length, some))
        return further

    def test_many_words(self):
        found = [self.assert_further(length, some) for length, some in word_sets()]
        self.assertGreater(found.count([]), 50)
        self.assertGreater(len([further for further in found if len(further) > 1]), 20)

    def test_all_sets_of_words_of_three_letters(self):
        for many in range(1, 9):
            for some in combinations(all_words(3), many):
                self.assert_further(3, some)

    def test_a_word_ahead_between_and_behind(self):
        fork = [(0, 0, 1), (0, 1, 0), (1, 0, 0)]
        self.assert_same(further_word(Words(3, fork)), (0, 0, 0))
        self.assert_same(further_word(words=Words(3, [(0, 1, 1), (1, 0, 1), (1, 1, 0)])), (1, 1, 1))
        self.assert_same(further_word(Words(3, [(0, 0, 0), (0, 1, 1), (1, 1, 0)])), (0, 1, 0))
        self.assert_told(Undefined, {"what": "word"}, further_word, words=Words(2, ALL_BUT_ONE))

    def test_clauses_with_far_more_than_40_settings(self):
        single = Words(39, single_letters(39))
        self.assert_same(further_word(single), (0,) * 39)
        both = Words(39, sorted([(1, 1) + (0,) * 37] + single_letters(39)))
        self.assert_same(further_word(both), (0,) * 39)
        even = [word for word in all_words(6) if sum(word) % 2 == 0]
        self.assert_same(further_word(Words(6, even)), (0, 0, 0, 0, 0, 1))
        self.assert_told(TooLarge, {"what": "settings"}, settings, words_clauses(Words(6, even)))
        columns = [tuple(k >> j & 1 for k in range(32)) for j in range(5)]
        columns += [tuple((k * k + j * k >> 3) % 2 for k in range(32)) for j in range(34)]
        some = sorted({tuple(column[k] for column in columns) for k in range(32)})
        found = further_word(Words(39, some))
        self.assertNotIn(found, some)
        clauses = words_clauses(Words(39, some))
        self.assert_told(TooLarge, {"what": "settings"}, settings, clauses)
        self.assertIs(holds(clauses, found), True)
        for k in range(39):
            if found[k] == 1:
                # What agrees up to here and has this letter 0 comes ahead of the found word, so it must be known.
                ahead = [(j, found[j]) for j in range(k)] + [(k, 0)]
                narrowed = Clauses(39, sorted(set(clauses.clauses) | {(literal,) for literal in ahead}))
                self.assertTrue(all(word in some for word in settings(narrowed)))

    def test_forty_closed_words(self):
        for some in (steps_of(39), [(0,) * 39] + single_letters(39)):
            self.assert_told(Undefined, {"what": "word"}, further_word, Words(39, some))
        for k in (1, 20, 38):
            # They stay closed when one of them is left out.
            left = [word for word in steps_of(39) if word != steps_of(39)[k]]
            self.assert_told(Undefined, {"what": "word"}, further_word, Words(39, left))

    def test_the_same_question_again(self):
        one, other = Words(3, [(0, 0, 1), (0, 1, 0), (1, 0, 0)]), Words(3, [(0, 1, 1), (1, 0, 1), (1, 1, 0)])
        for _ in range(3):
            self.assert_same(further_word(one), (0, 0, 0))
            self.assert_same(further_word(other), (1, 1, 1))


class Spared(Case):

    def test_many_clauses(self):
        for letters, some in clause_sets():
            if letters < 5 or len(some) < 9:
                clauses = Clauses(letters, some)
                found = spared(clauses)
                self.assertIsInstance(found, Clauses)
                self.assert_same((found.letters, found.clauses), (letters, tuple(spared_by_hand(letters, some))))
                self.assertEqual(clauses, Clauses(letters, some))

    def test_all_clauses_of_two_letters(self):
        every = clauses_of(2)
        for bits in range(2 ** len(every)):
            some = [clause for k, clause in enumerate(every) if bits >> k & 1]
            self.assert_same(spared(Clauses(2, some)).clauses, tuple(spared_by_hand(2, some)))

    def test_the_same_settings_and_none_follows_from_the_others(self):
        for letters, some in clause_sets():
            found = spared(Clauses(letters, some))
            self.assertEqual(settings(found), settings(Clauses(letters, some)))
            for clause in found.clauses:
                others = [other for other in found.clauses if other != clause]
                self.assertIs(follows(Clauses(letters, others), clause), False)

    def test_examples(self):
        self.assert_same(spared(clauses=Clauses(0, [])), Clauses(0, []))
        self.assert_same(spared(Clauses(39, [])), Clauses(39, []))
        # The last goes first, though it is the stronger one that could stay alone.
        self.assert_same(spared(Clauses(2, [((0, 1),), ((0, 1), (1, 1))])), Clauses(2, [((0, 1),)]))
        twice = Clauses(2, [((0, 0), (1, 0)), ((0, 0), (1, 1)), ((1, 0),)])
        self.assert_same(spared(twice), Clauses(2, [((0, 0), (1, 1)), ((1, 0),)]))
        rounds = Clauses(3, sorted([((0, 0), (1, 1)), ((1, 0), (2, 1)), ((0, 0), (2, 1))]))
        self.assert_same(spared(rounds), Clauses(3, [((0, 0), (1, 1)), ((1, 0), (2, 1))]))

    def test_clauses_that_no_word_makes_true(self):
        self.assert_same(spared(Clauses(2, SQUARES)), Clauses(2, SQUARES))
        self.assert_same(spared(Clauses(1, clauses_of(1))), Clauses(1, clauses_of(1)))
        self.assert_same(spared(Clauses(2, clauses_of(2))), Clauses(2, spared_by_hand(2, clauses_of(2))))
        self.assert_same(spared(Clauses(39, sorted(SQUARES + step_clauses(39)[2:]))), Clauses(39, SQUARES))
        every = spared(Clauses(39, clauses_of(39)))
        self.assertEqual(settings(every), ())
        self.assert_same(every.clauses, tuple(spared_by_hand(2, clauses_of(2))))
        far = spared(Clauses(39, clauses_of(39)[1500:3000]))
        self.assertEqual(settings(far), ())
        for clause in far.clauses:
            others = Clauses(39, [other for other in far.clauses if other != clause])
            self.assertIs(follows(others, clause), False)

    def test_many_letters(self):
        steps = words_clauses(Words(39, steps_of(39)))
        self.assert_same(spared(steps), Clauses(39, step_clauses(39)))
        star = words_clauses(Words(39, [(0,) * 39] + single_letters(39)))
        self.assert_same(spared(star), star)
        pair = words_clauses(Words(39, [(0,) * 39, (1,) * 39]))
        found = spared(pair)
        self.assertEqual(settings(found), settings(pair))
        self.assertLess(len(found.clauses), 80)

    def test_settings_far_above_40(self):
        ones = [clause for clause in clauses_of(39) if len(clause) == 2 and clause[0][1] == clause[1][1] == 1]
        self.assert_same(spared(Clauses(39, ones)), Clauses(39, ones))
        led = sorted(step_clauses(38) + [((a, 1), (a + 7, 0)) for a in range(0, 30, 3)])
        self.assert_told(TooLarge, {"what": "settings"}, settings, Clauses(39, led[1:]))
        self.assert_same(spared(Clauses(39, led)), Clauses(39, step_clauses(38)))

    def test_the_same_question_again(self):
        one, other = Clauses(2, clauses_of(2)), Clauses(2, SQUARES)
        first, between = spared(one), spared(other)
        self.assertNotEqual(first, between)
        self.assert_same(spared(one), first)
        self.assert_same(spared(Clauses(2, tuple(SQUARES))), between)


if __name__ == "__main__":
    unittest.main()
