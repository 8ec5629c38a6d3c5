"""Distances of vertices, and what lies on the shortest ways between them."""

from middlewebs.checks import check_vertices


def distance(graph, a, b):
    """The least number of edges of a path from a to b."""
    check_vertices(graph, (a, b))
    return graph.distances[a][b]


def interval(graph, a, b):
    """The ascending tuple of the vertices that lie on a shortest way from a to b."""
    check_vertices(graph, (a, b))
    from_a = graph.distances[a]
    from_b = graph.distances[b]
    return tuple([vertex for vertex in graph if from_a[vertex] + from_b[vertex] == from_a[b]])


def shortest_path(graph, a, b):
    """The first of the shortest ways from a to b, as a tuple of vertices."""
    check_vertices(graph, (a, b))
    left = graph.distances[b]
    way = [a]
    while way[-1] != b:
        here = way[-1]
        nearer = [vertex for vertex in graph.neighbors(here) if left[vertex] < left[here]]
        # Every nearer neighbor begins a shortest way; the least one begins the first of them.
        way.append(nearer[0])
    return tuple(way)
