"""Sets of clauses of one or two literals."""

from middlewebs.bits import all_reached
from middlewebs.checks import MOST_LETTERS, is_integer_within, is_sequence, is_word_of
from middlewebs.errors import InvalidClauses, InvalidWord
from middlewebs.literals import is_clause, leads_of


def _check_clauses(letters, clauses):
    """Raise InvalidClauses unless these are ascending clauses for words of so many letters."""
    if not is_sequence(clauses):
        raise InvalidClauses("clauses", 0)
    before = ()
    for place, clause in enumerate(clauses):
        if not is_clause(letters, clause) or clause <= before:
            raise InvalidClauses("clauses", place)
        before = clause


class Clauses:
    """Ascending clauses for words of so many letters."""

    def __init__(self, letters, clauses):
        if not is_integer_within(letters, 0, MOST_LETTERS):
            raise InvalidClauses("letters", 0)
        _check_clauses(letters, clauses)
        self.letters = letters
        self.clauses = tuple(clauses)
        # Nearly every question about clauses needs where literals lead, in one step and in several, so this is worked
        # out only once; literals.py tells how.
        self.leads = leads_of(letters, clauses)
        self.reach = all_reached(self.leads)

    def __eq__(self, other):
        if not isinstance(other, Clauses):
            return False
        return self.letters == other.letters and self.clauses == other.clauses


def holds(clauses, word):
    """Whether all of the clauses are true in the word."""
    if not is_word_of(word, clauses.letters):
        raise InvalidWord(word)
    return all([is_true(clause, word) for clause in clauses.clauses])


def is_true(clause, word):
    """Whether one of the clause's literals is true in the word."""
    return any([word[place] == bit for place, bit in clause])
