"""Totals of weighted distances, and the vertices where they are least."""

from middlewebs.checks import check_vertices, is_integer_within
from middlewebs.errors import InvalidWeights

MOST_WEIGHT = 40


def total(graph, weights, vertex):
    """The sum of the weights of all vertices times their distances from this one."""
    _check_weights(graph, weights)
    check_vertices(graph, (vertex,))
    return _total(graph, weights, vertex)


def least_vertices(graph, weights):
    """The ascending tuple of the vertices with the least total."""
    _check_weights(graph, weights)
    totals = [_total(graph, weights, vertex) for vertex in graph]
    least = min(totals)
    return tuple([vertex for vertex in graph if totals[vertex] == least])


def center(graph):
    """The ascending tuple of the vertices with the least total for weights 1 alone."""
    return least_vertices(graph, (1,) * graph.size)


def _check_weights(graph, value):
    """Raise InvalidWeights unless the value is a tuple of an integer from 0 to 40 for each vertex."""
    if not isinstance(value, tuple) or len(value) != graph.size:
        raise InvalidWeights(value)
    if not all([is_integer_within(weight, 0, MOST_WEIGHT) for weight in value]):
        raise InvalidWeights(value)


def _total(graph, weights, vertex):
    """The sum of the weights times the distances from this vertex."""
    return sum([weight * far for weight, far in zip(weights, graph.distances[vertex])])
