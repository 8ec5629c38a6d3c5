"""Sets of words of one length, what majority makes of them, and the letters that tell them apart."""

from middlewebs.bits import number_of_word, word_of_number
from middlewebs.checks import MOST_LETTERS, MOST_WORDS, is_integer_within, is_sequence, is_word, is_word_of
from middlewebs.errors import InvalidWord, InvalidWords, TooLarge, Undefined


def _check_words(length, words):
    """Raise InvalidWords unless these are 1 to 40 ascending words of so many letters."""
    if not is_sequence(words) or len(words) == 0:
        raise InvalidWords("words", 0)
    for place, word in enumerate(words):
        if place == MOST_WORDS or not is_word_of(word, length):
            raise InvalidWords("words", place)
        if place > 0 and word <= words[place - 1]:
            raise InvalidWords("words", place)


class Words:
    """A set of 1 to 40 words of one length, ascending."""

    def __init__(self, length, words):
        if not is_integer_within(length, 0, MOST_LETTERS):
            raise InvalidWords("length", 0)
        _check_words(length, words)
        self.length = length
        self.words = tuple(words)

    def __len__(self):
        return len(self.words)

    def __iter__(self):
        return iter(self.words)

    def __contains__(self, value):
        return is_word(value) and value in self.words

    def __eq__(self, other):
        if not isinstance(other, Words):
            return False
        return self.length == other.length and self.words == other.words


def majority(one, other, third):
    """The word that has at each place the letter that at least two of the three words have there."""
    for word in (one, other, third):
        if not is_word(word) or len(word) != len(one):
            raise InvalidWord(word)
    return tuple([x if x in (y, z) else y for x, y, z in zip(one, other, third)])


def is_closed(words):
    """Whether the majority of every three of the words is one of them."""
    return _first_wrong_words(words) is None


def wrong_words(words):
    """The first triple of the words, ascending, whose majority is none of them."""
    triple = _first_wrong_words(words)
    if triple is None:
        raise Undefined("words")
    return triple


def closed(words):
    """The closed words of the same length that have all of these and as few others as possible."""
    numbers = [number_of_word(word) for word in words]
    known = set(numbers)
    at = 0
    while at < len(numbers):
        for i in range(at):
            for j in range(i):
                number = _majority_number(numbers[at], numbers[i], numbers[j])
                if number not in known:
                    known.add(number)
                    numbers.append(number)
        # Each round adds less than a thousand words, so it is soon enough to count them behind it.
        if len(numbers) > MOST_WORDS:
            raise TooLarge("words")
        at = at + 1
    return Words(words.length, [word_of_number(number, words.length) for number in sorted(numbers)])


def is_reduced(words):
    """Whether no letter is constant and no two are linked."""
    return len(kept_letters(words)) == words.length


def kept_letters(words):
    """The ascending tuple of the places of the letters that are neither constant nor linked to an earlier one."""
    kept = []
    known = set()
    first = words.words[0]
    for place in range(words.length):
        # Letters are linked exactly if they change together, seen from the first word.
        changes = tuple([word[place] ^ first[place] for word in words])
        if 1 in changes and changes not in known:
            kept.append(place)
        known.add(changes)
    return tuple(kept)


def reduced(words):
    """The words with the kept letters alone."""
    kept = kept_letters(words)
    return Words(len(kept), [tuple([word[place] for place in kept]) for word in words])


def _majority_number(one, other, third):
    """The number of the majority of three words, told by their numbers."""
    return one & other | one & third | other & third


def _first_wrong_words(words):
    """The first triple of the words, ascending, whose majority is none of them, or None."""
    # A triple with a word twice has that one as its majority. Numbers are compared in one step instead of letter by
    # letter.
    numbers = [number_of_word(word) for word in words]
    known = set(numbers)
    for i in range(len(numbers)):
        for j in range(i + 1, len(numbers)):
            for k in range(j + 1, len(numbers)):
                if _majority_number(numbers[i], numbers[j], numbers[k]) not in known:
                    return (words.words[i], words.words[j], words.words[k])
    return None
