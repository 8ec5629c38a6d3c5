"""Contracted graphs, and the products in which a graph lies without any distance changed."""

from middlewebs.checks import check_edges, is_integer_within, is_pair, is_sequence, is_vertex
from middlewebs.errors import InvalidEdge, InvalidNumber
from middlewebs.graphs import Graph
from middlewebs.parallels import parallel_classes

LEAST_FACTOR = 2


def contracted(graph, edges):
    """The graph in which vertices connected by these edges are one, and what each vertex becomes."""
    if not is_sequence(edges):
        raise InvalidEdge(edges)
    check_edges(graph, edges)
    leaders = _leaders(graph, edges)
    kept = [vertex for vertex in graph if leaders[vertex] == vertex]
    names = tuple([kept.index(leader) for leader in leaders])
    pairs = [(names[a], names[b]) for a, b in graph.edges if names[a] != names[b]]
    return (Graph(len(kept), sorted({(min(pair), max(pair)) for pair in pairs})), names)


def factor(graph, k):
    """The graph contracted by all edges that are not in the parallel class k, and what each vertex becomes."""
    classes = parallel_classes(graph)
    if not is_integer_within(k, 0, len(classes) - 1):
        raise InvalidNumber(k)
    return _factor(graph, classes[k])


def is_box(graph, value):
    """Whether the value is a pair of factors and rows in which the graph lies without any distance changed."""
    if not is_pair(value):
        return False
    factors, rows = value
    if not _are_factors(factors) or not _are_rows(graph, factors, rows) or not _keep_distances(graph, factors, rows):
        return False
    columns = [[row[k] for row in rows] for k in range(len(factors))]
    return all([_is_covered(graph, part, column) for part, column in zip(factors, columns)])


def box(graph):
    """The finest box: a factor for each parallel class, and for each vertex a row of what it becomes in them."""
    pairs = [_factor(graph, members) for members in parallel_classes(graph)]
    factors = tuple([part for part, _ in pairs])
    return (factors, tuple([tuple([names[vertex] for _, names in pairs]) for vertex in graph]))


def _leaders(graph, edges):
    """For each vertex the least one to which it is connected by these edges."""
    leaders = list(graph)
    for a, b in edges:
        least = min(leaders[a], leaders[b])
        greatest = max(leaders[a], leaders[b])
        leaders = [least if leader == greatest else leader for leader in leaders]
    return leaders


def _factor(graph, members):
    """The graph contracted by all edges but these, and what each vertex becomes."""
    return contracted(graph, [edge for edge in graph.edges if edge not in members])


def _are_factors(value):
    """Whether the value is a tuple of graphs of two or more vertices."""
    if not isinstance(value, tuple):
        return False
    return all([isinstance(part, Graph) and part.size >= LEAST_FACTOR for part in value])


def _are_rows(graph, factors, value):
    """Whether the value is a tuple with a row for each vertex, a tuple of a vertex of each factor."""
    if not isinstance(value, tuple) or len(value) != graph.size:
        return False
    if not all([isinstance(row, tuple) and len(row) == len(factors) for row in value]):
        return False
    return all([is_vertex(part, entry) for row in value for part, entry in zip(factors, row)])


def _keep_distances(graph, factors, rows):
    """Whether the distances of entries add up to those of the vertices."""
    for a in graph:
        for b in range(a):
            if _row_distance(factors, rows[a], rows[b]) != graph.distances[a][b]:
                return False
    return True


def _row_distance(factors, one, other):
    """The sum of the distances of the entries of two rows."""
    return sum([part.distances[x][y] for part, x, y in zip(factors, one, other)])


def _is_covered(graph, part, column):
    """Whether the ends of each edge of a factor are the entries of some joined vertices."""
    # A factor is connected and has two vertices or more, so each of its vertices is an end of an edge.
    met = [(column[a], column[b]) for a, b in graph.edges]
    known = {(min(pair), max(pair)) for pair in met}
    return all([edge in known for edge in part.edges])
