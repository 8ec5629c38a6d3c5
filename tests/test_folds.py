"""Points [24] and [25]: folding hypercubes onto words."""

import copy
import random
import unittest
from functools import lru_cache
from itertools import combinations, product

from helper import (
    DEEP, Case, all_words, clauses_of, closure_of, grown_graphs, is_true_in, majority_of, many_median_graphs,
    no_numbers,
    no_words, single_letters, steps_of, word_sets,
)
from middlewebs.errors import InvalidFolding, InvalidWord, TooLarge, Undefined
from middlewebs.folds import Folding, fold, folded_words, folding
from middlewebs.graphs import Graph
from middlewebs.wordgraphs import graph_words
from middlewebs.words import Words, is_closed, is_reduced

FOLD = {"what": "fold"}
SQUARE = Words(2, all_words(2))
FORK = [(0, 0, 0), (0, 0, 1), (0, 1, 0), (1, 0, 0)]


def unlike(one, other):
    return sum(x != y for x, y in zip(one, other))


def is_closed_by_hand(words):
    return all(majority_of(*three) in words for three in combinations(words, 3))


def is_reduced_by_hand(length, words):
    columns = [tuple(word[k] for word in words) for k in range(length)]
    turned = [tuple(1 - letter for letter in column) for column in columns]
    return all(len(set(column)) == 2 for column in columns) and not any(
        columns[j] in (columns[k], turned[k]) for j, k in combinations(range(length), 2)
    )


@lru_cache(maxsize=None)
def foldable_sets():
    """Pairs of a length from 0 to 6 and closed and reduced words of it."""
    pairs = {(length, tuple(closure_of(words))) for length, words in word_sets()}
    pairs |= {(6, tuple(steps_of(6))), (6, tuple([(0,) * 6] + single_letters(6))), (0, ((),))}
    pairs |= {(graph_words(graph).length,
               graph_words(graph).words) for graph in many_median_graphs() if graph.size <= 40}
    return sorted(pair for pair in pairs if pair[0] <= 6 and is_reduced_by_hand(*pair) and len(pair[1]) <= 40)


def large_sets():
    """Pairs of a length above 6 and closed and reduced words of it."""
    pairs = [(39, tuple(steps_of(39))), (39, tuple([(0,) * 39] + single_letters(39))), (7, tuple(steps_of(7)))]
    words = [graph_words(graph) for graph in grown_graphs()]
    return pairs + [(each.length, each.words) for each in words if each.length > 6]


def clauses_by_hand(length, words):
    """All clauses that are true in all words, those of two literals only if neither is."""
    everywhere = [clause for clause in clauses_of(length) if all(is_true_in(clause, word) for word in words)]
    single = [clause[0] for clause in everywhere if len(clause) == 1]
    return [clause for clause in everywhere if len(clause) == 1 or not any(literal in single for literal in clause)]


def fold_by_hand(words, clauses, word):
    at = 0
    while word not in words:
        clause = clauses[at % len(clauses)]
        if not is_true_in(clause, word):
            word = tuple(1 - letter if k in (clause[0][0], clause[1][0]) else letter for k, letter in enumerate(word))
        at += 1
    return word


def wrong_part(length, images):
    """The part and the place for which images are refused, or None."""
    words = all_words(length)
    if type(images) is not tuple or len(images) != len(words):
        return ("images", 0)
    for k, image in enumerate(images):
        if type(image) is not tuple or len(image) != length or not all(type(x) is int and x in (0, 1) for x in image):
            return ("images", k)
    number = {word: k for k, word in enumerate(words)}
    for k, image in enumerate(images):
        if images[number[image]] != image:
            return ("rest", k)
    for k in range(len(words)):
        if any(unlike(words[j], words[k]) == 1 and unlike(images[j], images[k]) > 1 for j in range(k)):
            return ("step", k)
    return None


@lru_cache(maxsize=None)
def all_foldings(length):
    """The images of all foldings of this length, found word by word."""
    words = all_words(length)
    found = [()]
    for k, word in enumerate(words):
        near = [j for j in range(k) if unlike(words[j], word) == 1]
        found = [images + (image,) for images in found for image in words
                 if all(unlike(images[j], image) <= 1 for j in near)]
    return [images for images in found if wrong_part(length, images) is None]


class Fold(Case):

    def test_examples(self):
        self.assert_same(fold(Words(2, [(0, 0), (0, 1), (1, 0)]), (1, 1)), (0, 0))
        self.assert_same(fold(Words(2, steps_of(2)), word=(0, 1)), (1, 0))
        self.assert_same(fold(word=(1, 1, 1), words=Words(3, FORK)), (0, 0, 1))
        self.assert_same(fold(Words(3, FORK), (0, 1, 1)), (0, 0, 0))
        self.assert_same(fold(Words(0, [()]), ()), ())
        self.assert_same(fold(Words(1, [(0,), (1,)]), (1,)), (1,))

    def test_the_clauses_are_gone_through_in_order(self):
        words = Words(3, steps_of(3))
        self.assert_same([fold(words, word) for word in all_words(3)],
                         [(0, 0, 0), (1, 0, 0), (1, 0, 0), (1, 1, 0), (1, 0, 0), (1, 1, 0), (1, 1, 0), (1, 1, 1)])
        # Beginning again behind each turn, or with the last clause, would lead elsewhere.
        texts = "01000 01001 01011 01100 01101 10100 10101 11000 11001 11100 11101".split()
        words = Words(5, [tuple(map(int, text)) for text in texts])
        self.assert_same(fold(words, (0, 0, 1, 1, 1)), (1, 1, 0, 0, 1))

    def test_all_words(self):
        for length, words in foldable_sets():
            made = Words(length, words)
            clauses = clauses_by_hand(length, words)
            every = all_words(length)
            for word in every if length < 6 else every[::5]:
                self.assert_same(fold(made, word), fold_by_hand(words, clauses, word))
            self.assert_same(made, Words(length, words))

    def test_no_two_words_come_farther_apart(self):
        picked = random.Random(61)
        for length, words in large_sets():
            made = Words(length, words)
            clauses = clauses_by_hand(length, words)
            for _ in range(3):
                one = tuple(picked.randint(0, 1) for _ in range(length))
                at = picked.sample(range(length), picked.randint(1, 5))
                other = tuple(1 - letter if k in at else letter for k, letter in enumerate(one))
                images = [fold(made, one), fold(made, other)]
                self.assert_same(images, [fold_by_hand(words, clauses, one), fold_by_hand(words, clauses, other)])
                self.assertLessEqual(unlike(*images), len(at))

    def test_the_words_stay(self):
        for length, words in foldable_sets()[::3] + large_sets():
            made = Words(length, words)
            for word in words[::4]:
                self.assert_same(fold(made, word), word)

    def test_39_letters(self):
        words = Words(39, steps_of(39))
        self.assert_same(fold(words, (0,) * 38 + (1,)), (1,) + (0,) * 38)
        self.assert_same(fold(words, (0,) * 20 + (1,) * 19), (1,) * 19 + (0,) * 20)
        star = Words(39, [(0,) * 39] + single_letters(39))
        self.assert_same(fold(star, (1,) * 39), single_letters(39)[0])
        self.assert_same(fold(star, (1,) * 38 + (0,)), (0,) * 39)

    def test_words_that_are_not_closed_or_not_reduced(self):
        seen = set()
        for length, words in word_sets():
            closed, reduced = is_closed_by_hand(words), is_reduced_by_hand(length, words)
            seen.add((closed, reduced))
            if not (closed and reduced):
                made = Words(length, words)
                self.assert_told(Undefined, FOLD, fold, made, words[0])
                self.assert_told(Undefined, FOLD, fold, words=made, word=(0,) * length)
                self.assert_told(Undefined, FOLD, folding, made)
                self.assert_told(Undefined, FOLD, folding, words=made)
                self.assertEqual((made.length, made.words), (length, tuple(words)))
        self.assertEqual(len(seen), 4)

    def test_what_is_no_word(self):
        for words in (SQUARE, Words(3, FORK), Words(6, steps_of(6)), Words(39, steps_of(39))):
            for value in no_words(words.length):
                self.assert_refused(InvalidWord, fold, words, value)
                self.assert_refused(InvalidWord, fold, words=words, word=value)
        for value in ((0,), 0, None, "", [], ((),), False):
            self.assert_refused(InvalidWord, fold, Words(0, [()]), value)

    def test_the_words_are_asked_first(self):
        open_words = Words(3, [(0, 0, 1), (0, 1, 0), (1, 0, 0)])
        for value in (None, (0, 0), (0, 0, 2), [0, 0, 0], "000"):
            self.assert_told(Undefined, FOLD, fold, open_words, value)
            self.assert_told(Undefined, FOLD, fold, Words(3, [(0, 0, 0)]), value)

    def test_the_same_question_again(self):
        one, other = Words(3, FORK), Words(3, steps_of(3))
        first, between = fold(one, (1, 1, 1)), fold(other, (1, 1, 1))
        self.assertNotEqual(first, between)
        self.assert_same(fold(one, (1, 1, 1)), first)
        self.assert_same(fold(Words(3, steps_of(3)), (1, 1, 1)), between)


class FoldingOfWords(Case):

    def test_all_images(self):
        for length, words in foldable_sets():
            made = Words(length, words)
            found = folding(made)
            clauses = clauses_by_hand(length, words)
            self.assertIsInstance(found, Folding)
            self.assert_same(found.length, length)
            self.assert_same(found.images, tuple(fold_by_hand(words, clauses, word) for word in all_words(length)))
            self.assertIsNone(wrong_part(length, found.images))
            self.assert_same(folded_words(found), made)
            self.assert_same(folding(Words(length, list(words))), found)

    def test_every_length_is_tried(self):
        self.assertEqual({length for length, _ in foldable_sets()}, set(range(7)))

    def test_examples(self):
        self.assert_same(folding(Words(0, [()])).images, ((),))
        self.assert_same(folding(words=SQUARE).images, tuple(all_words(2)))
        self.assert_same(folding(Words(2, steps_of(2))).images, ((0, 0), (1, 0), (1, 0), (1, 1)))

    def test_more_than_six_letters(self):
        for length, words in large_sets():
            self.assert_told(TooLarge, {"what": "letters"}, folding, Words(length, words))
            self.assert_told(TooLarge, {"what": "letters"}, folding, words=Words(length, words))

    def test_the_words_are_asked_ahead_of_the_letters(self):
        for words in (single_letters(7), [(0,) * 7], [word + word[:1] for word in steps_of(6)]):
            self.assert_told(Undefined, FOLD, folding, Words(7, words))
        self.assert_told(Undefined, FOLD, folding, Words(39, single_letters(39)))

    def test_the_same_question_again(self):
        one, other = Words(3, FORK), Words(3, steps_of(3))
        first, between = folding(one), folding(other)
        self.assertNotEqual(first, between)
        self.assert_same(folding(one), first)


class Foldings(Case):

    def test_attributes_by_position_and_by_name(self):
        for length, words in foldable_sets()[::4]:
            images = folding(Words(length, words)).images
            for made in (Folding(length, images), Folding(length, images=images),
                         Folding(images=images, length=length)):
                self.assert_same(made.length, length)
                self.assert_same(made.images, images)
                self.assertLessEqual({"length", "images"}, set(vars(made)))

    def test_the_identity(self):
        for length in range(7):
            images = tuple(all_words(length))
            self.assert_same(Folding(length, images).images, images)

    def test_all_foldings_of_few_letters(self):
        for length in range(3):
            right = all_foldings(length)
            for images in product(all_words(length), repeat=2 ** length):
                part = wrong_part(length, images)
                if part is None:
                    self.assertIn(images, right)
                    self.assert_same(Folding(length, images).images, images)
                else:
                    self.assert_told(InvalidFolding, {"part": part[0], "place": part[1]}, Folding, length, images)

    def test_one_image_changed(self):
        told = set()
        for length, words in foldable_sets()[::6]:
            right = folding(Words(length, words)).images
            for k in range(0, len(right), 3):
                for image in all_words(length)[::2]:
                    images = right[:k] + (image,) + right[k + 1:]
                    part = wrong_part(length, images)
                    if part is None:
                        self.assert_same(Folding(length, images).images, images)
                    else:
                        told.add(part)
                        self.assert_told(InvalidFolding, {"part": part[0], "place": part[1]}, Folding, length, images)
        self.assertGreater(len({place for part, place in told if part == "rest"}), 3)
        self.assertGreater(len({place for part, place in told if part == "step"}), 3)

    def test_the_step_that_is_told(self):
        # All images rest; the word 11 is the first that is one letter from a lesser word and two from its image.
        far = {"part": "step", "place": 3}
        self.assert_told(InvalidFolding, far, Folding, 2, ((0, 0), (0, 0), (1, 0), (1, 1)))
        self.assert_told(InvalidFolding, {"part": "step", "place": 1}, Folding, 2, ((0, 0), (1, 1), (0, 0), (1, 1)))
        self.assert_told(InvalidFolding, {"part": "step", "place": 2}, Folding, 2, ((0, 0), (0, 0), (1, 1), (1, 1)))
        self.assert_told(InvalidFolding, {"part": "rest", "place": 0}, Folding, 1, ((1,), (0,)))
        self.assert_told(InvalidFolding, {"part": "rest", "place": 1}, Folding, 2, ((0, 0), (1, 0), (0, 0), (1, 1)))

    def test_what_is_no_length(self):
        for value in no_numbers(0, 6) + [7, 39]:
            for images in (((0,), (1,)), None, ()):
                self.assert_told(InvalidFolding, {"part": "length", "place": 0}, Folding, value, images)
                self.assert_told(InvalidFolding, {"part": "length", "place": 0}, Folding, images=images, length=value)

    def test_what_is_no_tuple_of_so_many(self):
        right = tuple(all_words(2))
        told = {"part": "images", "place": 0}
        wrong = [
            None, True, False, 0, 4, "", "0011", (), [], list(right), right[:3], right + (right[0],), right * 2,
            (right,), DEEP,
            tuple(all_words(1)), tuple(all_words(3)), SQUARE, Graph(1, []), [right], right * 300,
        ]
        for value in wrong:
            before = copy.deepcopy(value) if isinstance(value, list) else value
            self.assert_told(InvalidFolding, told, Folding, 2, value)
            self.assert_told(InvalidFolding, told, Folding, length=2, images=value)
            self.assertEqual(value, before)
        for value in ((), [()], None, ((), ()), [], "", 0):
            self.assert_told(InvalidFolding, told, Folding, 0, value)
        self.assert_told(InvalidFolding, told, Folding, 0, ((0,),))

    def test_the_first_image_that_is_no_word(self):
        right = tuple(all_words(3))
        for value in no_words(3):
            for place in (0, 1, 4, 7):
                images = right[:place] + (value,) + right[place + 1:]
                self.assert_told(InvalidFolding, {"part": "images", "place": place}, Folding, 3, images)
            self.assert_told(InvalidFolding, {"part": "images", "place": 2}, Folding, 3,
                             right[:2] + (value,) + right[3:7] + (None,))

    def test_words_are_asked_ahead_of_rest_and_rest_ahead_of_step(self):
        self.assert_told(InvalidFolding, {"part": "images", "place": 3}, Folding, 2, ((1, 1), (0, 0), (0, 1), (0, 2)))
        # The place 1 is a wrong step, the place 2 does not rest.
        images = ((0, 0), (1, 1), (0, 1), (1, 1))
        self.assertEqual(wrong_part(2, images), ("rest", 2))
        self.assert_told(InvalidFolding, {"part": "rest", "place": 2}, Folding, 2, images)

    def test_equality(self):
        made = [Folding(length, images) for length in range(3) for images in all_foldings(length)]
        for i, one in enumerate(made):
            for j, other in enumerate(made):
                self.assertIs(one == other, i == j)
                self.assertIs(one != other, i != j)
            again = Folding(one.length, tuple(list(one.images)))
            self.assertIs(one == again, True)
            for value in (None, 0, (), one.images, (one.length, one.images), Words(0, [()]), "folding", Graph(1, [])):
                self.assertIs(one == value, False)
                self.assertIs(value == one, False)
                self.assertIs(one != value, True)


class FoldedWords(Case):

    def test_all_foldings_of_at_most_three_letters(self):
        for length in range(4):
            for images in all_foldings(length):
                found = folded_words(Folding(length, images))
                self.assert_same(found, Words(length, sorted(set(images))))
                self.assertTrue(is_closed_by_hand(found.words))

    def test_reduced_words_are_closed_exactly_if_there_is_a_folding(self):
        for length in range(4):
            onto = {tuple(sorted(set(images))) for images in all_foldings(length)}
            every = all_words(length)
            for bits in range(1, 2 ** len(every)):
                words = tuple(word for k, word in enumerate(every) if bits >> k & 1)
                if is_reduced_by_hand(length, words):
                    self.assertEqual(words in onto, is_closed_by_hand(words))
                    self.assertEqual(is_closed(Words(length, words)), words in onto)
                    self.assertIs(is_reduced(Words(length, words)), True)

    def test_exactly_40_words_and_more(self):
        exactly = Words(6, graph_words(Graph.cube(3) * Graph.path(4)).words)
        self.assertEqual(len(exactly), 32)
        self.assert_same(folded_words(folding(exactly)), exactly)
        # A square with one more vertex takes three letters for five vertices.
        forty = graph_words(Graph.cube(3) * Graph(5, [(0, 1), (0, 2), (1, 3), (2, 3), (3, 4)]))
        self.assertEqual((len(forty), forty.length), (40, 6))
        self.assert_same(folded_words(folding=folding(forty)), forty)
        # Six letters of which the last two are folded onto fewer words: 48 and 64 images are too many.
        for length, short in ((6, [word for word in all_words(2)]), (6, [(0, 0), (0, 1), (1, 0)])):
            images = tuple(word[:4] + fold(Words(2, short), word[4:]) for word in all_words(length))
            made = Folding(6, images)
            self.assertGreater(len(set(images)), 40)
            self.assert_told(TooLarge, {"what": "words"}, folded_words, made)
            self.assert_told(TooLarge, {"what": "words"}, folded_words, folding=made)
            self.assert_same(made.images, images)

    def test_foldings_that_keep_a_letter_constant(self):
        images = tuple((0, word[1]) for word in all_words(2))
        self.assert_same(folded_words(Folding(2, images)), Words(2, [(0, 0), (0, 1)]))
        self.assert_same(folded_words(Folding(6, ((1,) * 6,) * 64)), Words(6, [(1,) * 6]))
        self.assert_same(folded_words(Folding(0, ((),))), Words(0, [()]))

    def test_the_same_question_again(self):
        one, other = folding(Words(2, steps_of(2))), folding(SQUARE)
        first, between = folded_words(one), folded_words(other)
        self.assertNotEqual(first, between)
        self.assert_same(folded_words(one), first)


if __name__ == "__main__":
    unittest.main()
