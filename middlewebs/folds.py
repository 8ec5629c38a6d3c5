"""Folding hypercubes onto closed and reduced words."""

from middlewebs.bits import has_one_place, has_place, number_of_word, word_of_number
from middlewebs.checks import MOST_WORDS, is_integer_within, is_word_of
from middlewebs.clauses import is_true
from middlewebs.errors import InvalidFolding, InvalidWord, TooLarge, Undefined
from middlewebs.wordclauses import words_clauses
from middlewebs.words import Words, is_closed, is_reduced

MOST_LENGTH = 6


def fold(words, word):
    """The one of the closed and reduced words onto which this word is folded, clause by clause."""
    _check_foldable(words)
    if not is_word_of(word, words.length):
        raise InvalidWord(word)
    return _folded(words, words_clauses(words), word)


def folding(words):
    """The folding of all words of this length onto the closed and reduced words."""
    _check_foldable(words)
    if words.length > MOST_LENGTH:
        raise TooLarge("letters")
    clauses = words_clauses(words)
    images = [_folded(words, clauses, word) for word in _all_words(words.length)]
    return Folding(words.length, tuple(images))


def _check_foldable(words):
    """Raise Undefined unless the words are closed and reduced."""
    if not is_reduced(words) or not is_closed(words):
        raise Undefined("fold")


def _folded(words, clauses, word):
    """The word with both letters of each clause that is not true in it turned over, round by round."""
    # Each clause that turns letters over brings the word no farther from any of the words, and nearer to one in which
    # both of its literals are true; so there is an end. Once the word is one of the words all clauses are true in it,
    # so the last round need not be broken off.
    while word not in words:
        for clause in clauses.clauses:
            if not is_true(clause, word):
                word = _turned_over(word, [place for place, _ in clause])
    return word


def _turned_over(word, places):
    """The word with the letters at these places turned over."""
    return tuple([1 - letter if place in places else letter for place, letter in enumerate(word)])


def _all_words(length):
    """All words of so many letters, in order."""
    return [word_of_number(number, length) for number in range(1 << length)]


def _check_images(length, images):
    """Raise InvalidFolding unless these are words of so many letters, as many as there are such words."""
    if not isinstance(images, tuple) or len(images) != 1 << length:
        raise InvalidFolding("images", 0)
    for place, image in enumerate(images):
        if not is_word_of(image, length):
            raise InvalidFolding("images", place)


def _check_steps(length, numbers):
    """Raise InvalidFolding unless images, told by their numbers, rest and are no farther apart than their words."""
    for place, number in enumerate(numbers):
        if numbers[number] != number:
            raise InvalidFolding("rest", place)
    for place, number in enumerate(numbers):
        # Of two words that are unlike at one letter that with 0 there has the lesser place.
        lesser = [place - (1 << letter) for letter in range(length) if has_place(place, letter)]
        if any([_are_far(number, numbers[other]) for other in lesser]):
            raise InvalidFolding("step", place)


def _are_far(one, other):
    """Whether the words with these numbers are unlike at two or more letters."""
    return one != other and not has_one_place(one ^ other)


class Folding:
    """An image for each word of so many letters, in order: images stay, and steps never become longer."""

    def __init__(self, length, images):
        if not is_integer_within(length, 0, MOST_LENGTH):
            raise InvalidFolding("length", 0)
        _check_images(length, images)
        _check_steps(length, [number_of_word(image) for image in images])
        self.length = length
        self.images = images

    def __eq__(self, other):
        if not isinstance(other, Folding):
            return False
        return self.length == other.length and self.images == other.images


def folded_words(folding):
    """The set of all images."""
    found = sorted(set(folding.images))
    if len(found) > MOST_WORDS:
        raise TooLarge("words")
    return Words(folding.length, found)
