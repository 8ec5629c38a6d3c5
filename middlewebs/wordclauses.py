"""The clauses of words, the word that shows that words are not closed, and clauses without needless ones."""

from middlewebs.bits import all_reached, bits_of
from middlewebs.clauses import Clauses
from middlewebs.errors import Undefined
from middlewebs.literals import clause_leads, contradicted_place, leads_to_clause, literal_of_number
from middlewebs.settings import first_settings


def words_clauses(words):
    """The clauses that are true in all of the words, those of two literals only where neither is true in all."""
    everywhere = (1 << len(words)) - 1
    truths = [_truth(words, literal_of_number(number)) for number in range(2 * words.length)]
    found = []
    # The numbers of literals are ascending as the literals are, so the clauses come out ascending.
    for first, truth in enumerate(truths):
        literal = literal_of_number(first)
        if truth == everywhere:
            found.append((literal,))
            continue
        for last in range(2 * literal[0] + 2, len(truths)):
            if truths[last] != everywhere and truth | truths[last] == everywhere:
                found.append((literal, literal_of_number(last)))
    return Clauses(words.length, found)


def further_word(words):
    """The first word that is none of the words and for which their clauses hold."""
    # The clauses hold for each of the words, so one more setting than there are words is enough to look at.
    for word in first_settings(words_clauses(words), len(words) + 1):
        if word not in words:
            return word
    raise Undefined("word")


def spared(clauses):
    """The clauses left when, from the last to the first, each that follows from the others left is left out."""
    leads = list(clauses.leads)
    # Where there is no contradiction none can be left, and need not be looked for again and again.
    is_contradicted = contradicted_place(clauses.reach) is not None
    kept = []
    for clause in reversed(clauses.clauses):
        _turn_leads(leads, clause)
        if leads_to_clause(leads, clause):
            continue
        if is_contradicted and contradicted_place(all_reached(leads)) is not None:
            continue
        _turn_leads(leads, clause)
        kept.append(clause)
    return Clauses(clauses.letters, list(reversed(kept)))


def _truth(words, literal):
    """The bits of the places of the words in which the literal is true."""
    place, bit = literal
    return bits_of([at for at, word in enumerate(words) if word[place] == bit])


def _turn_leads(leads, clause):
    """Take the leads of a clause out of the rows, or put them back; no two clauses have one in common."""
    for start, end in sorted(set(clause_leads(clause))):
        leads[start] = leads[start] ^ 1 << end
