"""The commands of a desk: their words, and what is written behind them."""

from middlewebs.checks import check_vertices
from middlewebs.errors import InvalidCommand, UnknownCommand
from middlewebs.writing import number_in, set_in

# For each command whether the words behind it are numbers or sets.
KINDS = {
    "expand": ("set",),
    "peel": ("number", "number"),
    "keep": ("number", "number"),
    "contract": ("number", "number"),
    "start": ("number",),
    "size": (),
    "distance": ("number", "number"),
    "median": ("number", "number", "number"),
    "hull": ("set",),
    "gate": ("set", "number"),
    "center": (),
    "cubes": (),
    "word": ("number",),
    "letter": ("number", "number"),
    "undo": (),
    "redo": (),
}


def first_word(command):
    """The word that tells what a command does."""
    word = command.split(" ")[0]
    if word not in KINDS:
        raise UnknownCommand(word)
    return word


def vertices_in(graph, command):
    """A vertex or a tuple of vertices of the graph for each word behind the first one of a known command."""
    words = command.split(" ")
    kinds = KINDS[words[0]]
    found = []
    at = len(words[0]) + 1
    for place, word in enumerate(words[1:]):
        value = _value_in(word, kinds[place]) if place < len(kinds) else None
        if value is None:
            raise InvalidCommand(command, at)
        found.append(value)
        at = at + len(word) + 1
    if len(found) < len(kinds):
        raise InvalidCommand(command, len(command))
    for value in found:
        check_vertices(graph, value if isinstance(value, tuple) else (value,))
    return found


def _value_in(word, kind):
    """The number or the set that is written so, or None."""
    return set_in(word) if kind == "set" else number_in(word)
