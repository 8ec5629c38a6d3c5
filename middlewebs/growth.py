"""Growing median graphs: expansions over convex subsets, and the way back by peripheral halves."""

from middlewebs.checks import MOST_VERTICES, is_pair, is_sequence
from middlewebs.convex import is_filled_convex
from middlewebs.errors import InvalidGrowth, InvalidSubset, TooLarge
from middlewebs.graphs import Graph
from middlewebs.medians import check_median_graph
from middlewebs.names import are_names
from middlewebs.parallels import half


def expanded(graph, subset):
    """The graph with a copy of each vertex of a convex subset, joined to its original and to its neighbors' copies."""
    if not is_filled_convex(graph, subset):
        raise InvalidSubset(subset)
    size = graph.size + len(subset)
    if size > MOST_VERTICES:
        raise TooLarge("vertices")
    copies = {member: graph.size + place for place, member in enumerate(subset)}
    stems = [(member, copies[member]) for member in subset]
    between = [(copies[a], copies[b]) for a, b in graph.edges if a in copies and b in copies]
    return Graph(size, sorted(list(graph.edges) + stems + between))


def _grown_over(subsets):
    """The graph of one vertex expanded over each of the subsets; InvalidGrowth with the first that is wrong."""
    if not is_sequence(subsets):
        raise InvalidGrowth(0)
    graph = Graph(1, [])
    for place, subset in enumerate(subsets):
        try:
            graph = expanded(graph, subset)
        except (InvalidSubset, TooLarge):
            raise InvalidGrowth(place) from None
    return graph


class Growth:
    """Subsets over which the graph of one vertex is expanded in turn; graph is what comes of it."""

    def __init__(self, subsets):
        # To check the subsets is to grow the graph, so it is kept.
        self.graph = _grown_over(subsets)
        self.subsets = tuple(subsets)

    def __eq__(self, other):
        if not isinstance(other, Growth):
            return False
        return self.subsets == other.subsets


def grown(growth):
    """The graph at the end of the growth."""
    return growth.graph


def is_peripheral(graph, inner):
    """Whether each vertex of a half is joined to a vertex outside it."""
    return all([any([other not in inner for other in graph.neighbors(vertex)]) for vertex in inner])


def peripheral_halves(graph):
    """The ascending tuple of the halves of a median graph of which each vertex is joined to one outside."""
    check_median_graph(graph)
    halves = [half(graph, edge) for a, b in graph.edges for edge in ((a, b), (b, a))]
    return tuple(sorted({inner for inner in halves if is_peripheral(graph, inner)}))


def growth_of(graph):
    """A growth of a median graph, and what the vertices of the grown graph are called in it."""
    check_median_graph(graph)
    halves = []
    left = tuple(graph)
    while len(left) > 1:
        inner = _least_half(graph, left)
        halves.append(inner)
        left = tuple([vertex for vertex in left if vertex not in inner])
    names = left
    subsets = []
    for inner in reversed(halves):
        # Each vertex of a peripheral half is joined to just one outside it, which it becomes a copy of.
        pairs = [(place, vertex) for place, name in enumerate(names) for vertex in inner if (name, vertex) in graph]
        subsets.append(tuple([place for place, _ in pairs]))
        names = names + tuple([vertex for _, vertex in pairs])
    return (Growth(subsets), names)


def is_growth_of(graph, value):
    """Whether the value is a pair of a growth and names from its grown graph to this one."""
    if not is_pair(value) or not isinstance(value[0], Growth):
        return False
    return are_names(grown(value[0]), graph, value[1])


def _least_half(graph, left):
    """The least of the halves of what is left of a median graph, two vertices or more."""
    # What is left is convex, so its distances and halves are those of the graph. The least half is peripheral: a
    # vertex that is joined to none outside, beside one that is, would be in a lesser half without the latter.
    ends = [edge for a, b in graph.edges if a in left and b in left for edge in ((a, b), (b, a))]
    halves = [tuple([vertex for vertex in half(graph, edge) if vertex in left]) for edge in ends]
    return min(halves, key=len)
