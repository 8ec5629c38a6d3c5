"""The two sides of a graph whose edges all lead across, or the odd cycle that forbids them."""

from middlewebs.distances import shortest_path
from middlewebs.errors import Undefined


def sides(graph):
    """A bit for each vertex, 0 for vertex 0, unlike at the ends of each edge."""
    if _level_edges(graph):
        raise Undefined("sides")
    return tuple([steps & 1 for steps in graph.distances[0]])


def odd_cycle(graph):
    """An odd number of unlike vertices, each joined to the next one and the last to the first."""
    level = _level_edges(graph)
    if not level:
        raise Undefined("cycle")
    a, b = level[0]
    one = shortest_path(graph, a, 0)
    other = shortest_path(graph, b, 0)
    # Both ways lead down a level with each step, so they have no common vertex ahead of the place where they meet.
    steps = 0
    while one[steps] != other[steps]:
        steps = steps + 1
    return one[:steps + 1] + tuple(reversed(other[:steps]))


def _level_edges(graph):
    """The edges whose ends are equally far from vertex 0."""
    # Sides change with each step of a shortest way from vertex 0, so they are alike at the ends of just these edges.
    steps = graph.distances[0]
    return [(a, b) for a, b in graph.edges if steps[a] == steps[b]]
