"""Points [13], [14] and [15]: words, majority, closed words and reduced words."""

import copy
import unittest
from itertools import combinations, combinations_with_replacement, product

from helper import (
    Case, all_words, closure_of, majority_of, no_numbers, no_sequences, no_words, outcome, single_letters, steps_of,
    word_sets,
)
from middlewebs.errors import InvalidWord, InvalidWords, TooLarge, Undefined
from middlewebs.graphs import Graph
from middlewebs.words import (
    Words, closed, is_closed, is_reduced, kept_letters, majority, reduced, wrong_words,
)

SQUARE = Words(2, [(0, 0), (0, 1), (1, 0), (1, 1)])
FORK = [(0, 0, 1), (0, 1, 0), (1, 0, 0)]


def numbered_words(length, many):
    """The first words of this length."""
    return [tuple(number >> k & 1 for k in reversed(range(length))) for number in range(many)]


def with_one_ahead(words):
    return [(1,) + word for word in words]


class Making(Case):

    def test_attributes(self):
        words = Words(2, [(0, 1), (1, 0)])
        self.assert_same(words.length, 2)
        self.assert_same(words.words, ((0, 1), (1, 0)))
        self.assertLessEqual({"length", "words"}, set(vars(words)))

    def test_lists_and_tuples_by_position_and_by_name(self):
        for length, words in word_sets():
            for sequence in (list(words), tuple(words)):
                for made in (
                    Words(length, sequence), Words(length, words=sequence), Words(words=sequence, length=length),
                ):
                    self.assert_same(made.length, length)
                    self.assert_same(made.words, tuple(words))

    def test_the_edges(self):
        self.assert_same(Words(0, [()]).words, ((),))
        self.assert_same(Words(0, ((),)).length, 0)
        self.assert_same(Words(39, steps_of(39)).words, tuple(steps_of(39)))
        self.assert_same(Words(39, [(1,) * 39]).length, 39)
        self.assertEqual(len(Words(39, steps_of(39)).words), 40)
        self.assertEqual(len(Words(6, numbered_words(6, 40)).words), 40)

    def test_later_changes_have_no_effect(self):
        sequence = [(0, 1), (1, 0)]
        words = Words(2, sequence)
        sequence.append((1, 1))
        sequence[0] = (0, 0)
        self.assert_same(words.words, ((0, 1), (1, 0)))
        self.assertEqual(list(words), [(0, 1), (1, 0)])
        self.assertIn((0, 1), words)

    def test_arguments_stay_as_they_are(self):
        for length, words in word_sets()[:40]:
            before = list(words)
            Words(length, words)
            self.assert_same(words, before)


class AsAContainer(Case):

    def test_len_and_iteration(self):
        for length, some in word_sets():
            words = Words(length, some)
            self.assert_same(len(words), len(some))
            self.assert_same([word for word in words], list(some))
            self.assert_same(tuple(words), tuple(words))
        self.assertEqual(len(Words(39, steps_of(39))), 40)

    def test_in(self):
        for length, some in word_sets():
            words = Words(length, some)
            for word in all_words(length):
                self.assertIs(word in words, word in some)
                self.assertIs(word + (0,) in words, False)
                self.assertIs(word[1:] in words, length == 0)

    def test_in_for_any_value_at_all(self):
        for value in no_words(2) + [[0, 1], [(0, 1)], ((0, 1),), (0, True), (False, True), (True, 1), ("0", "1"), SQUARE]:
            self.assertIs(value in SQUARE, False, repr(value))
        for value in (None, True, 0, "", [], Graph(1, []), ((),), [()], (0,), (1,), (False,), ((((),),),)):
            self.assertIs(value in Words(0, [()]), False)
        self.assertIs((True,) in Words(1, [(0,), (1,)]), False)
        self.assertIs((False,) in Words(1, [(0,), (1,)]), False)
        self.assertIs(() in Words(0, [()]), True)
        self.assertIs((0,) * 1500 in Words(39, steps_of(39)), False)
        self.assertIs((0,) * 39 in Words(39, steps_of(39)), True)

    def test_equality(self):
        for length, some in word_sets()[:60]:
            self.assertIs(Words(length, list(some)) == Words(length, tuple(some)), True)
            self.assertIs(Words(length, list(some)) != Words(length, tuple(some)), False)
        unlike = [
            Words(0, [()]), Words(1, [(0,)]), Words(1, [(1,)]), Words(1, [(0,), (1,)]), Words(2, [(0, 0)]), SQUARE,
            Words(3, [(0, 0, 0)]),
        ]
        for one, other in combinations(unlike, 2):
            self.assertIs(one == other, False)
            self.assertIs(one != other, True)

    def test_other_kinds_are_not_equal(self):
        others = [None, True, 0, 2, "", "words", (), [], ((0, 0),), SQUARE.words, (2, SQUARE.words), Graph.cycle(4)]
        for other in others:
            self.assertIs(SQUARE == other, False)
            self.assertIs(SQUARE != other, True)
            self.assertIs(other == SQUARE, False)


class WrongWords(Case):

    def assert_wrong(self, part, place, length, words):
        before = copy.deepcopy((length, words))
        told = {"part": part, "place": place}
        self.assert_told(InvalidWords, told, Words, length, words)
        self.assert_told(InvalidWords, told, Words, words=words, length=length)
        self.assertEqual((length, words), before)

    def test_the_length(self):
        for length in no_numbers(0, 39):
            for words in ([()], [(0,)], [], None, [(0,) * 40], [1]):
                self.assert_wrong("length", 0, length, words)

    def test_what_is_no_sequence_or_empty(self):
        for length in (0, 1, 2, 39):
            for words in no_sequences() + [[], ()]:
                self.assert_wrong("words", 0, length, words)
        self.assert_wrong("words", 0, 2, SQUARE)

    def test_the_first_that_is_no_word(self):
        for value in no_words(2):
            self.assert_wrong("words", 0, 2, [value])
            for place in range(4):
                for kind in (list, tuple):
                    words = list(SQUARE.words)
                    words[place] = value
                    self.assert_wrong("words", place, 2, kind(words))
        for length, word in ((0, (0,)), (1, ()), (3, (0, 1)), (39, (0,) * 40), (39, (0,) * 38), (38, (0,) * 39)):
            self.assert_wrong("words", 0, length, [word])

    def test_the_first_that_is_not_after_the_one_before(self):
        for place in range(1, 8):
            words = all_words(3)
            words[place] = words[place - 1]
            self.assert_wrong("words", place, 3, words)
            words = all_words(3)
            words[place - 1], words[place] = words[place], words[place - 1]
            self.assert_wrong("words", place, 3, words)
        self.assert_wrong("words", 1, 0, [(), ()])
        self.assert_wrong("words", 1, 2, [(1, 1), (0, 0)])
        self.assert_wrong("words", 2, 2, [(0, 0), (1, 1), (1, 0), (0, 1)])

    def test_the_first_of_several_is_told(self):
        self.assert_wrong("words", 1, 2, [(0, 0), (0, 0), "01", None])
        self.assert_wrong("words", 1, 2, [(0, 0), None, (0, 0)])
        self.assert_wrong("words", 2, 2, [(0, 0), (1, 0), (0, 1), (0,)])

    def test_more_than_40(self):
        right = numbered_words(6, 64)
        for many in (41, 42, 64):
            self.assert_wrong("words", 40, 6, right[:many])
            self.assert_wrong("words", 40, 6, tuple(right[:many]))
        for value in (None, (0,) * 6, right[39], (0,) * 7, [0] * 6):
            self.assert_wrong("words", 40, 6, right[:40] + [value])
        for place in (0, 1, 20, 39):
            words = list(right)
            words[place] = (0,) * 5
            self.assert_wrong("words", place, 6, words)
        self.assert_wrong("words", 39, 6, right[:39] + [right[38]] + right[40:])
        self.assert_wrong("words", 40, 39, steps_of(39) + [(1,) * 39])


class Majority(Case):

    def test_ordinary_words(self):
        self.assert_same(majority((0, 0, 1), (0, 1, 1), (1, 0, 1)), (0, 0, 1))
        for length in range(4):
            for one, other, third in product(all_words(length), repeat=3):
                self.assert_same(majority(one, other, third), majority_of(one, other, third))

    def test_long_words_by_name(self):
        one, other, third = steps_of(39)[3], steps_of(39)[30], steps_of(39)[17]
        self.assert_same(majority(third=third, one=one, other=other), third)
        self.assert_same(majority(one, third=one, other=third), one)
        self.assert_same(majority((), (), ()), ())

    def test_what_is_no_word(self):
        for value in no_words(2):
            if value not in ((0,), (), (0, 0, 0)):
                self.assert_refused(InvalidWord, majority, other=(0, 1), third=(1, 1), one=value)
            self.assert_refused(InvalidWord, majority, one=(0, 0), third=(1, 1), other=value)
            self.assert_refused(InvalidWord, majority, (0, 0), (1, 1), value)
        self.assert_told(InvalidWord, {"value": (0,) * 40}, majority, (0,) * 40, (0,) * 40, (0,) * 40)

    def test_the_first_is_told(self):
        self.assert_told(InvalidWord, {"value": (0, 2)}, majority, (0, 2), (0,), None)
        self.assert_told(InvalidWord, {"value": (0,)}, majority, (0, 0), (0,), None)
        self.assert_told(InvalidWord, {"value": (0, 0)}, majority, (0,), (0, 0), (0, 0))
        self.assert_told(InvalidWord, {"value": (1, 0)}, majority, (), (), (1, 0))
        self.assert_told(InvalidWord, {"value": (True, 0)}, majority, (0, 0), (True, 0), [0, 0])


class ClosedWords(Case):

    def assert_closed(self, length, some):
        """The three functions tell what the words of the document say."""
        words = Words(length, some)
        known = set(some)
        wrong = [three for three in combinations(some, 3) if majority_of(*three) not in known]
        self.assertIs(is_closed(words), wrong == [])
        if wrong:
            self.assert_same(wrong_words(words), wrong[0])
        else:
            self.assert_told(Undefined, {"what": "words"}, wrong_words, words)
        closure = closure_of(some)
        self.assertEqual(closure == list(some), wrong == [])
        self.assert_same(outcome(closed, words), ("returned", Words(length, closure)))
        self.assert_same(closed(words).words, tuple(closure))
        self.assertEqual(words, Words(length, some))
        return wrong

    def test_many_words(self):
        found = [self.assert_closed(length, some) for length, some in word_sets()]
        self.assertGreater(found.count([]), 50)
        self.assertGreater(len(found) - found.count([]), 50)

    def test_the_first_triple(self):
        self.assert_same(wrong_words(Words(3, FORK)), tuple(FORK))
        self.assert_same(wrong_words(words=Words(4, with_one_ahead(FORK))), tuple(with_one_ahead(FORK)))
        # The majority of the first three is there, that of the others is not.
        words = [(0, 0, 0, 0, 0), (0, 0, 1, 0, 0), (0, 1, 0, 0, 0), (1, 0, 0, 0, 1), (1, 0, 0, 1, 1), (1, 1, 0, 0, 0)]
        self.assertNotEqual(self.assert_closed(5, words), [])

    def test_one_and_two_words_are_closed(self):
        self.assertEqual(self.assert_closed(0, [()]), [])
        for word in all_words(3):
            self.assertEqual(self.assert_closed(3, [word]), [])
        for pair in combinations(all_words(3), 2):
            self.assertEqual(self.assert_closed(3, list(pair)), [])
        self.assertEqual(self.assert_closed(39, [(0,) * 39, (1,) * 39]), [])

    def test_forty_words(self):
        steps = Words(39, steps_of(39))
        self.assertIs(is_closed(words=steps), True)
        self.assertEqual(closed(words=steps), steps)
        self.assert_told(Undefined, {"what": "words"}, wrong_words, steps)

    def test_a_closure_of_exactly_40(self):
        single = Words(39, single_letters(39))
        self.assertIs(is_closed(single), False)
        self.assert_same(wrong_words(single), single.words[:3])
        self.assert_same(closed(single).words, ((0,) * 39,) + single.words)
        self.assertIs(is_closed(closed(single)), True)
        # Of 5 by 8 words only those at the corners and the ones along two sides.
        grid = sorted(one + other for one in steps_of(4) for other in steps_of(7))
        some = sorted(set(one + (0,) * 7 for one in steps_of(4)) | set((0,) * 4 + other for other in steps_of(7)))
        far = sorted(set(one + (1,) * 7 for one in steps_of(4)) | set((1,) * 4 + other for other in steps_of(7)))
        self.assertEqual(len(grid), 40)
        self.assert_same(closed(Words(11, sorted(set(some + far)))).words, tuple(closure_of(some + far)))
        self.assertEqual(closure_of(some + far), grid)

    def test_a_closure_of_more_than_40(self):
        even = [word for word in all_words(6) if sum(word) % 2 == 0]
        both = sorted([(1, 1) + (0,) * 37] + single_letters(39))
        self.assert_told(TooLarge, {"what": "words"}, closed, Words(39, both))
        self.assert_told(TooLarge, {"what": "words"}, closed, words=Words(6, even))
        self.assertEqual(len(closure_of(even)), 64)
        scattered = sorted({tuple(k * k * j % 7 % 2 for j in range(39)) for k in range(1, 7)})
        self.assertLess(len(closure_of(scattered)), 41)
        self.assertEqual(closed(Words(39, scattered)).words, tuple(closure_of(scattered)))
        ones_and_twos = sorted(tuple(int(k in (a, b)) for k in range(9)) for a in range(9) for b in range(a + 1, 9))
        self.assertEqual(len(ones_and_twos), 36)
        self.assert_told(TooLarge, {"what": "words"}, closed, Words(9, ones_and_twos))
        self.assertIs(is_closed(Words(9, ones_and_twos)), False)

    def test_the_same_question_again(self):
        fork, other = Words(3, FORK), Words(4, with_one_ahead(FORK))
        first = (closed(fork), wrong_words(fork))
        between = (closed(other), wrong_words(other))
        self.assertNotEqual(first, between)
        self.assert_same((closed(fork), wrong_words(fork)), first)
        self.assert_same((closed(Words(4, tuple(other))), wrong_words(Words(4, tuple(other)))), between)


class ReducedWords(Case):

    def letters_of(self, length, some):
        """The kept letters, and whether all are kept, by the words of the document."""
        columns = [tuple(word[k] for word in some) for k in range(length)]
        turned = [tuple(1 - letter for letter in column) for column in columns]
        constant = [len(set(column)) == 1 for column in columns]
        linked = [[columns[k] in (columns[j], turned[j]) for j in range(length)] for k in range(length)]
        kept = [k for k in range(length) if not constant[k] and not any(linked[k][:k])]
        needless = any(constant) or any(linked[k][j] for k in range(length) for j in range(k))
        return tuple(kept), not needless

    def test_many_words(self):
        judged = []
        for length, some in word_sets():
            words = Words(length, some)
            kept, whole = self.letters_of(length, some)
            self.assert_same(kept_letters(words), kept)
            self.assertIs(is_reduced(words), whole)
            self.assertEqual(whole, len(kept) == length)
            found = reduced(words)
            self.assert_same(found.length, len(kept))
            self.assert_same(found.words, tuple(tuple(word[k] for k in kept) for word in some))
            self.assertEqual(words, Words(length, some))
            judged.append(whole)
        self.assertGreater(judged.count(True), 40)
        self.assertGreater(judged.count(False), 40)

    def test_as_many_words_and_closed_exactly_if_the_words_are(self):
        for length, some in word_sets():
            words = Words(length, some)
            found = reduced(words)
            self.assertEqual(len(found), len(words))
            self.assertIs(is_reduced(found), True)
            self.assertEqual(reduced(found), found)
            self.assertIs(is_closed(found), is_closed(words))

    def test_constant_and_linked_letters(self):
        self.assert_same(kept_letters(Words(3, [(0, 0, 1), (0, 1, 1)])), (1,))
        self.assert_same(kept_letters(Words(3, [(0, 0, 1), (1, 1, 0)])), (0,))
        self.assert_same(kept_letters(Words(4, [(0, 0, 1, 0), (0, 1, 0, 1), (1, 0, 1, 0)])), (0, 1))
        self.assert_same(kept_letters(words=Words(2, [(0, 0), (0, 1), (1, 0)])), (0, 1))
        self.assert_same(reduced(words=Words(3, [(0, 0, 1), (0, 1, 1)])), Words(1, [(0,), (1,)]))
        self.assertIs(is_reduced(words=Words(3, [(0, 0, 1), (0, 1, 1)])), False)

    def test_one_word_has_no_letter_that_is_kept(self):
        for word in ((), (0,), (1,), (0, 1, 1), (1,) * 39):
            words = Words(len(word), [word])
            self.assert_same(kept_letters(words), ())
            self.assertIs(is_reduced(words), word == ())
            self.assertEqual(reduced(words), Words(0, [()]))

    def test_39_letters(self):
        steps = Words(39, steps_of(39))
        self.assert_same(kept_letters(steps), tuple(range(39)))
        self.assertIs(is_reduced(steps), True)
        self.assertEqual(reduced(steps), steps)
        doubled = Words(39, [word + (1,) + tuple(1 - letter for letter in reversed(word)) for word in steps_of(19)])
        self.assert_same(kept_letters(doubled), tuple(range(19)))
        self.assert_same(reduced(doubled).words, tuple(steps_of(19)))

    def test_all_sets_of_a_few_words(self):
        for pair in combinations_with_replacement(all_words(3), 3):
            some = sorted(set(pair))
            kept, whole = self.letters_of(3, some)
            self.assert_same(kept_letters(Words(3, some)), kept)
            self.assertIs(is_reduced(Words(3, some)), whole)

    def test_the_same_question_again(self):
        one, other = Words(3, [(0, 0, 1), (0, 1, 1)]), Words(3, [(0, 0, 1), (1, 1, 0)])
        first, between = (kept_letters(one), reduced(one)), (kept_letters(other), reduced(other))
        self.assertNotEqual(first[0], between[0])
        self.assert_same((kept_letters(one), reduced(one)), first)


if __name__ == "__main__":
    unittest.main()
