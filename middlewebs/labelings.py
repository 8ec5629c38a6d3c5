"""Labelings: words for the vertices whose unlike letters count the distances."""

from middlewebs.checks import is_word
from middlewebs.errors import Undefined
from middlewebs.parallels import half, parallel_classes


def is_labeling(graph, value):
    """Whether the value is a tuple of words of one length, one for each vertex, that count the distances."""
    if not isinstance(value, tuple) or len(value) != graph.size:
        return False
    if not all([is_word(word) for word in value]):
        return False
    if not all([len(word) == len(value[0]) for word in value]):
        return False
    return all([_unlike_letters(value[a], value[b]) == graph.distances[a][b] for a in graph for b in range(a)])


def labeling(graph):
    """The labeling with a letter for each parallel class, in their order, all of them 0 at vertex 0."""
    columns = [_column(graph, members[0]) for members in parallel_classes(graph)]
    words = tuple([tuple([column[vertex] for column in columns]) for vertex in graph])
    # If the graph has any labeling, these words are one, so it has none if they are not.
    if not is_labeling(graph, words):
        raise Undefined("labeling")
    return words


def _column(graph, edge):
    """A letter for each vertex: 0 on the side of the edge where vertex 0 is, 1 on the other one."""
    near = half(graph, edge)
    return [0 if (vertex in near) == (0 in near) else 1 for vertex in graph]


def _unlike_letters(one, other):
    """The number of letters at which two words of one length are unlike."""
    return sum([1 for x, y in zip(one, other) if x != y])
