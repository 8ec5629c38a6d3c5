"""Parallel edges, the classes that they form, and the halves of a graph beside an edge."""

from middlewebs.bits import bits_of, first_place
from middlewebs.checks import check_edges
from middlewebs.errors import Undefined


def are_parallel(graph, one, other):
    """Whether two edges, each given with its ends in either order, are parallel."""
    check_edges(graph, (one, other))
    return _is_crossed(_leads(graph, one), other)


def parallel_classes(graph):
    """The finest partition of all edges that keeps parallel edges together, ascending."""
    classes = []
    left = list(graph.edges)
    while left:
        members = _class_of_first(graph, left)
        classes.append(members)
        left = [edge for edge in left if edge not in members]
    return tuple(classes)


def class_place(graph, edge):
    """The place of the parallel class to which an edge belongs, given with its ends in either order."""
    check_edges(graph, (edge,))
    ends = (min(edge), max(edge))
    return [place for place, members in enumerate(parallel_classes(graph)) if ends in members][0]


def wrong_edges(graph):
    """The first triple (e, f, g) of edges of which e and f are parallel, f and g are, and e and g are not."""
    edges = graph.edges
    rows = [bits_of(_parallel_places(graph, edge)) for edge in edges]
    for e, row in enumerate(rows):
        for f, other in enumerate(rows):
            further = other & ~row
            if row >> f & 1 == 1 and further != 0:
                return (edges[e], edges[f], edges[first_place(further)])
    raise Undefined("edges")


def half(graph, edge):
    """The ascending tuple of the vertices that are nearer to the first end of the edge than to the second."""
    check_edges(graph, (edge,))
    leads = _leads(graph, edge)
    return tuple([vertex for vertex in graph if leads[vertex] < 0])


def _leads(graph, edge):
    """For each vertex its distance from the first end less that from the second."""
    a, b = edge
    return [near - far for near, far in zip(graph.distances[a], graph.distances[b])]


def _is_crossed(leads, edge):
    """Whether the edge is parallel to the one that these leads belong to."""
    # The sums of distances that [10] compares are equal exactly if the ends of the edge have the same lead.
    c, d = edge
    return leads[c] != leads[d]


def _parallel_places(graph, edge):
    """The places, among all edges, of those that are parallel to this one."""
    leads = _leads(graph, edge)
    return [place for place, other in enumerate(graph.edges) if _is_crossed(leads, other)]


def _class_of_first(graph, edges):
    """Those of the ascending edges to which a chain of parallel ones leads from the first, ascending."""
    members = [edges[0]]
    left = edges[1:]
    at = 0
    while at < len(members):
        leads = _leads(graph, members[at])
        at = at + 1
        members.extend([edge for edge in left if _is_crossed(leads, edge)])
        left = [edge for edge in left if not _is_crossed(leads, edge)]
    return tuple(sorted(members))
