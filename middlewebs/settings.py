"""The words for which clauses hold, or the contradiction that forbids them."""

from middlewebs.bits import has_place, places_of
from middlewebs.checks import MOST_WORDS
from middlewebs.errors import InvalidClause, TooLarge, Undefined
from middlewebs.literals import (
    contradicted_place, forced_literals, is_clause, is_literal, leads_to_clause, literal_of_number, number_of_literal,
    opposite,
)
from middlewebs.words import Words


def settings(clauses):
    """The ascending tuple of all words for which the clauses hold."""
    found = first_settings(clauses, MOST_WORDS + 1)
    if len(found) > MOST_WORDS:
        raise TooLarge("settings")
    return found


def first_settings(clauses, most):
    """The first words, at most so many, for which the clauses hold."""
    # Where there is a contradiction both literals of a letter are forced, and no choice is left there. Otherwise each
    # choice can be kept to the end, so the first ones, letter by letter, become the first words.
    found = [forced_literals(clauses.reach)]
    for place in range(clauses.letters):
        found = [further for chosen in found for further in _choices(clauses.reach, chosen, place)][:most]
    return tuple([_chosen_word(clauses.letters, chosen) for chosen in found])


def clauses_words(clauses):
    """The set of all words for which the clauses hold."""
    found = settings(clauses)
    if len(found) == 0:
        raise Undefined("settings")
    return Words(clauses.letters, found)


def contradiction(clauses):
    """Literals each of which leads to the next, from one to its opposite and back again."""
    place = contradicted_place(clauses.reach)
    if place is None:
        raise Undefined("contradiction")
    zero = 2 * place
    way = _way(clauses.leads, zero, opposite(zero)) + _way(clauses.leads, opposite(zero), zero)[1:]
    return tuple([literal_of_number(number) for number in way])


def is_contradiction(clauses, value):
    """Whether the value is a contradiction of the clauses."""
    if not isinstance(value, tuple) or len(value) == 0:
        return False
    if not all([is_literal(clauses.letters, literal) for literal in value]):
        return False
    numbers = [number_of_literal(literal) for literal in value]
    if numbers[-1] != numbers[0] or opposite(numbers[0]) not in numbers:
        return False
    return all([has_place(clauses.leads[number], after) for number, after in zip(numbers, numbers[1:])])


def follows(clauses, clause):
    """Whether the clause is true in all words for which the clauses hold."""
    if not is_clause(clauses.letters, clause):
        raise InvalidClause(clause)
    return contradicted_place(clauses.reach) is not None or leads_to_clause(clauses.leads, clause)


def _choices(reach, chosen, place):
    """The chosen literals with one of the letter at this place and all that it leads to, for each that may be so."""
    # Whatever is chosen has all that it leads to; so does the opposite of what leads to an opposite of it. So a
    # literal may be chosen unless its opposite is.
    numbers = (2 * place, 2 * place + 1)
    return [chosen | 1 << number | reach[number] for number in numbers if not has_place(chosen, opposite(number))]


def _chosen_word(letters, chosen):
    """The word in which the chosen literals are true, one for each letter."""
    return tuple([chosen >> (2 * place + 1) & 1 for place in range(letters)])


def _way(leads, start, end):
    """The numbers of literals of a shortest way on which each leads to the next, from the start to the end."""
    before = {start: start}
    queue = [start]
    at = 0
    while end not in before:
        number = queue[at]
        at = at + 1
        for further in places_of(leads[number]):
            if further not in before:
                before[further] = number
                queue.append(further)
    way = [end]
    while way[-1] != start:
        way.append(before[way[-1]])
    return list(reversed(way))
