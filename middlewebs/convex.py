"""Convex subsets of a graph, their gates, and what several of them have in common."""

from middlewebs.checks import check_vertices, is_sequence, is_subset
from middlewebs.distances import interval
from middlewebs.errors import InvalidSubset, Undefined


def is_convex(graph, subset):
    """Whether the subset has the interval of every two of its vertices."""
    return convex_hull(graph, subset) == subset


def is_filled_convex(graph, value):
    """Whether the value is a convex subset that is not empty."""
    return is_subset(graph, value) and len(value) > 0 and is_convex(graph, value)


def convex_hull(graph, subset):
    """The least convex subset that has all vertices of this one."""
    if not is_subset(graph, subset):
        raise InvalidSubset(subset)
    found = set(subset)
    waiting = list(subset)
    done = []
    while waiting:
        vertex = waiting.pop()
        for other in done:
            for between in interval(graph, vertex, other):
                if between not in found:
                    found.add(between)
                    waiting.append(between)
        done.append(vertex)
    return tuple(sorted(found))


def gate(graph, subset, vertex):
    """The vertex of the subset that lies between the vertex and each one of the subset."""
    if not is_subset(graph, subset) or len(subset) == 0:
        raise InvalidSubset(subset)
    check_vertices(graph, (vertex,))
    away = graph.distances[vertex]
    for inner in subset:
        if all([away[inner] + graph.distances[inner][other] == away[other] for other in subset]):
            return inner
    raise Undefined("gate")


def common(graph, subsets):
    """The ascending tuple of the vertices that all of the convex subsets have."""
    _check_subsets(graph, subsets)
    return tuple([vertex for vertex in graph if all([vertex in subset for subset in subsets])])


def apart(graph, subsets):
    """The first pair of places of two of the convex subsets that have no common vertex."""
    _check_subsets(graph, subsets)
    for i in range(len(subsets)):
        for j in range(i + 1, len(subsets)):
            if not _meet(subsets[i], subsets[j]):
                return (i, j)
    raise Undefined("pair")


def _check_subsets(graph, subsets):
    """Raise InvalidSubset unless this is a sequence of one or more non-empty convex subsets."""
    if not is_sequence(subsets) or len(subsets) == 0:
        raise InvalidSubset(subsets)
    for subset in subsets:
        if not is_filled_convex(graph, subset):
            raise InvalidSubset(subset)


def _meet(one, other):
    """Whether two subsets have a common vertex."""
    return any([vertex in other for vertex in one])
