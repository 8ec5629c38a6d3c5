"""Literals and clauses as tuples, and literals as numbers: (k, bit) has the number 2 * k + bit.

The opposite of a literal has its number with the last bit turned over. Where literals lead is told by rows: for the
number of each literal the bits of the numbers that it leads to.
"""

from middlewebs.bits import bits_of, first_place, has_place
from middlewebs.checks import is_integer_within, is_pair


def is_literal(letters, value):
    """Whether the value is a literal for words of so many letters."""
    if not is_pair(value):
        return False
    place, bit = value
    return is_integer_within(place, 0, letters - 1) and is_integer_within(bit, 0, 1)


def is_clause(letters, value):
    """Whether the value is a clause for words of so many letters."""
    if not isinstance(value, tuple) or len(value) not in (1, 2):
        return False
    if not all([is_literal(letters, literal) for literal in value]):
        return False
    return len(value) == 1 or value[0][0] < value[1][0]


def number_of_literal(literal):
    """The number of a literal."""
    place, bit = literal
    return 2 * place + bit


def literal_of_number(number):
    """The literal that has this number."""
    return (number >> 1, number & 1)


def opposite(number):
    """The number of the opposite of the literal that has this one."""
    return number ^ 1


def leads_of(letters, clauses):
    """Where each literal leads by these clauses."""
    rows = [0 for _ in range(2 * letters)]
    for clause in clauses:
        for start, end in clause_leads(clause):
            rows[start] = rows[start] | 1 << end
    return tuple(rows)


def clause_leads(clause):
    """The pairs of numbers of literals of which, by this clause, the first leads to the second."""
    # In a clause of one literal this one is the first and the last, and the pair comes out twice.
    first = number_of_literal(clause[0])
    last = number_of_literal(clause[-1])
    return ((opposite(first), last), (opposite(last), first))


def contradicted_place(reach):
    """The least place of a letter whose literals lead, in some steps, to one another, or None."""
    for place in range(len(reach) // 2):
        zero = 2 * place
        if has_place(reach[zero], zero + 1) and has_place(reach[zero + 1], zero):
            return place
    return None


def forced_literals(reach):
    """The bits of the literals to which their opposites lead, in some steps."""
    return bits_of([number for number in range(len(reach)) if has_place(reach[opposite(number)], number)])


def leads_to_clause(leads, clause):
    """Whether the clause is true in all words for which clauses with these leads hold, if there is such a word."""
    first = number_of_literal(clause[0])
    last = number_of_literal(clause[-1])
    from_first = _reached(leads, opposite(first))
    # A word without both literals would have to be extended from their opposites. That fails only if one of these
    # leads to its own opposite or to that of the other one.
    if has_place(from_first, first) or has_place(from_first, last):
        return True
    return has_place(_reached(leads, opposite(last)), last)


def _reached(leads, start):
    """The bits of the literals to which the one leads in one or more steps."""
    found = leads[start]
    waiting = found
    while waiting != 0:
        more = leads[first_place(waiting)]
        waiting = (waiting & (waiting - 1)) | (more & ~found)
        found = found | more
    return found
