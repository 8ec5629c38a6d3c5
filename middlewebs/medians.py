"""Medians of three vertices, and the graphs in which every three have exactly one."""

from middlewebs.bits import bits_of, has_one_place
from middlewebs.checks import check_vertices
from middlewebs.distances import interval
from middlewebs.errors import Undefined


def medians(graph, a, b, c):
    """The ascending tuple of the vertices that are in the interval of each two of the three."""
    check_vertices(graph, (a, b, c))
    beside_a = interval(graph, b, c)
    beside_b = interval(graph, a, c)
    beside_c = interval(graph, a, b)
    return tuple([vertex for vertex in beside_a if vertex in beside_b and vertex in beside_c])


def median(graph, a, b, c):
    """The only median of the three vertices."""
    found = medians(graph, a, b, c)
    if len(found) != 1:
        raise Undefined("median")
    return found[0]


def is_median_graph(graph):
    """Whether every three vertices have exactly one median."""
    return _first_wrong_triple(graph) is None


def check_median_graph(graph):
    """Raise Undefined unless every three vertices have exactly one median."""
    if not is_median_graph(graph):
        raise Undefined("median")


def wrong_triple(graph):
    """The first triple (a, b, c), a < b < c, that has no median or more than one."""
    triple = _first_wrong_triple(graph)
    if triple is None:
        raise Undefined("triple")
    return triple


def _first_wrong_triple(graph):
    """The first triple of unlike vertices that has not exactly one median, or None."""
    # A triple with a vertex twice always has that one as its only median. Three intervals that are kept as numbers
    # are compared in one step instead of vertex by vertex.
    between = [[bits_of(interval(graph, a, b)) for b in graph] for a in graph]
    for a in range(graph.size):
        for b in range(a + 1, graph.size):
            for c in range(b + 1, graph.size):
                if not has_one_place(between[a][b] & between[a][c] & between[b][c]):
                    return (a, b, c)
    return None
