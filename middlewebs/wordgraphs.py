"""The graph of a set of words, and the words of a graph."""

from middlewebs.bits import has_one_place, number_of_word
from middlewebs.errors import InvalidGraph, Undefined
from middlewebs.graphs import Graph
from middlewebs.labelings import labeling
from middlewebs.words import Words, reduced


def words_graph(words):
    """The graph whose vertex k is the word k; two are joined if exactly one of the kept letters is unlike."""
    numbers = [number_of_word(word) for word in reduced(words)]
    many = len(numbers)
    edges = [(a, b) for a in range(many) for b in range(a + 1, many) if has_one_place(numbers[a] ^ numbers[b])]
    # There are 1 to 40 words and the edges are ascending, so only a graph in several parts is refused.
    try:
        return Graph(many, edges)
    except InvalidGraph:
        raise Undefined("graph") from None


def graph_words(graph):
    """The words that the labeling of the graph consists of."""
    words = sorted(labeling(graph))
    return Words(len(words[0]), words)
