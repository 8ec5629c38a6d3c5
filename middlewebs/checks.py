"""What a value must be before the other files work with it."""

from middlewebs.errors import InvalidEdge, InvalidNumber

MOST_VERTICES = 40
MOST_LETTERS = 39
MOST_WORDS = 40
MOST_EVENTS = 39
MOST_STATES = 40


def is_integer(value):
    """Whether the value is an integer; True and False are none."""
    return isinstance(value, int) and not isinstance(value, bool)


def is_integer_within(value, least, greatest):
    """Whether the value is an integer from the least to the greatest one."""
    return is_integer(value) and least <= value <= greatest


def is_sequence(value):
    """Whether the value is a list or a tuple."""
    return isinstance(value, (list, tuple))


def is_pair(value):
    """Whether the value is a tuple of two members."""
    return isinstance(value, tuple) and len(value) == 2


def is_word(value):
    """Whether the value is a tuple of at most 39 bits."""
    if not isinstance(value, tuple) or len(value) > MOST_LETTERS:
        return False
    return all([is_integer_within(letter, 0, 1) for letter in value])


def is_word_of(value, length):
    """Whether the value is a word of so many letters."""
    return is_word(value) and len(value) == length


def is_vertex(graph, value):
    """Whether the value is a vertex of the graph."""
    return is_integer_within(value, 0, graph.size - 1)


def are_ascending(value, many):
    """Whether the value is an ascending tuple of integers from 0 to many - 1."""
    if not isinstance(value, tuple):
        return False
    before = -1
    for member in value:
        if not is_integer_within(member, before + 1, many - 1):
            return False
        before = member
    return True


def is_subset(graph, value):
    """Whether the value is an ascending tuple of vertices of the graph."""
    return are_ascending(value, graph.size)


def check_vertices(graph, values):
    """Raise InvalidNumber with the first of the values that is no vertex."""
    for value in values:
        if not is_vertex(graph, value):
            raise InvalidNumber(value)


def check_edges(graph, values):
    """Raise InvalidEdge with the first of the values that is no pair of joined vertices, in either order."""
    for value in values:
        if value not in graph:
            raise InvalidEdge(value)
