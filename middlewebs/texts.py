"""Texts of graphs, words, clauses, events and growths."""

from middlewebs.bits import has_place
from middlewebs.clauses import Clauses
from middlewebs.errors import (
    InvalidClauses, InvalidEvents, InvalidForm, InvalidGraph, InvalidGrowth, InvalidText, InvalidWords,
)
from middlewebs.events import Events
from middlewebs.forms import form_of
from middlewebs.graphs import Graph
from middlewebs.growth import Growth
from middlewebs.words import Words
from middlewebs.writing import number_in, numbers_text, set_in, word_in, word_text

# A number of two digits is less.
BEYOND_NUMBERS = 100


def _graph_lines(graph):
    """The lines of a graph."""
    return [f"graph {graph.size}"] + [f"{a}-{b}" for a, b in graph.edges]


def _words_lines(words):
    """The lines of words."""
    return [f"words {words.length}"] + [word_text(word) for word in words]


def _clauses_lines(clauses):
    """The lines of clauses."""
    rows = [" ".join([_literal_text(literal) for literal in clause]) for clause in clauses.clauses]
    return [f"clauses {clauses.letters}"] + rows


def _literal_text(literal):
    """How a literal is written."""
    place, bit = literal
    return str(place) if bit == 1 else f"!{place}"


def _events_lines(events):
    """The lines of events."""
    causes = [f"{a}>{b}" for a, b in events.causes]
    return [f"events {events.many}"] + causes + [f"{a}#{b}" for a, b in events.conflicts]


def _growth_lines(growth):
    """The lines of a growth."""
    return ["growth"] + [numbers_text(subset) for subset in growth.subsets]


WRITERS = {
    "graph": _graph_lines,
    "words": _words_lines,
    "clauses": _clauses_lines,
    "events": _events_lines,
    "growth": _growth_lines,
}


def write(value):
    """The text of a graph, words, clauses, events or a growth."""
    form = form_of(value)
    if form not in WRITERS:
        raise InvalidForm(value)
    lines_of = WRITERS[form]
    return "\n".join(lines_of(value))


def _graph_in(size, lines):
    """The graph of which these are the size and the further lines."""
    return Graph(size, [_pair_in(line, "-") for line in lines])


def _words_in(length, lines):
    """The words of which these are the length and the further lines."""
    return Words(length, [word_in(line) for line in lines])


def _clauses_in(letters, lines):
    """The clauses of which these are the number of letters and the further lines."""
    return Clauses(letters, [_clause_in(line) for line in lines])


def _events_in(many, lines):
    """The events of which these are the number and the further lines."""
    causes = _causes_in(lines)
    conflicts = [_pair_in(line, "#") for line in lines[len(causes):]]
    return Events(many, _until_cycle(causes), conflicts)


READERS = {
    "graph": _graph_in,
    "words": _words_in,
    "clauses": _clauses_in,
    "events": _events_in,
}


def read(text):
    """The object whose text this is."""
    if not isinstance(text, str):
        raise InvalidText(text, 0)
    lines = text.split("\n")
    thing = None
    wrong = 0
    # A line that is not written as told becomes None, which the classes refuse in its place.
    try:
        thing = _thing_of(lines[0].split(" "), lines[1:])
    except (InvalidGraph, InvalidWords, InvalidClauses, InvalidEvents) as error:
        wrong = _wrong_line(lines, error.part, error.place)
    except InvalidGrowth as refusal:
        wrong = refusal.place + 1
    if thing is None:
        raise InvalidText(text, _beginning(text, wrong))
    return thing


def _thing_of(head, lines):
    """The object with these words in its first line and these further lines, or None if the words are no such line."""
    if head == ["growth"]:
        return Growth([set_in(line) for line in lines])
    if len(head) != 2 or head[0] not in READERS:
        return None
    reader = READERS[head[0]]
    return reader(number_in(head[1]), lines)


def _wrong_line(lines, part, place):
    """The number of the line for which a part of an object is refused, or of lines if it is the whole text."""
    if part in ("size", "length", "letters", "many"):
        return 0
    if part == "parts":
        return len(lines)
    if part == "conflicts":
        return 1 + len(_causes_in(lines[1:])) + place
    return 1 + place


def _beginning(text, line):
    """The place where the line of this number begins, or the length of the text if there is none."""
    ahead = text.split("\n")[:line]
    return min(len(text), sum([len(each) + 1 for each in ahead]))


def _pair_in(line, sign):
    """The two numbers that are written with this sign between them, or None."""
    numbers = [number_in(part) for part in line.split(sign)]
    if len(numbers) != 2 or None in numbers:
        return None
    return tuple(numbers)


def _clause_in(line):
    """The literals that are written so, or None."""
    literals = [_literal_in(part) for part in line.split(" ")]
    return None if None in literals else tuple(literals)


def _literal_in(text):
    """The literal that is written so, or None."""
    place = number_in(text.removeprefix("!"))
    if place is None:
        return None
    return (place, 0 if text.startswith("!") else 1)


def _causes_in(lines):
    """The pairs that are written as causes, up to the first line that is not."""
    causes = []
    for line in lines:
        pair = _pair_in(line, ">")
        if pair is None:
            break
        causes.append(pair)
    return causes


def _until_cycle(causes):
    """The causes, or those ahead of the first that leads an event back to itself together with them, and None."""
    # For each event the bits of all that lead to it.
    needs = [0 for _ in range(BEYOND_NUMBERS)]
    for place, (a, b) in enumerate(causes):
        ahead = needs[a] | 1 << a
        if has_place(ahead, b):
            return causes[:place] + [None]
        needs = [row | ahead if event == b or has_place(row, b) else row for event, row in enumerate(needs)]
    return causes
