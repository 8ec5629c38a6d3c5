"""Connected graphs of 1 to 40 vertices."""

from middlewebs.checks import MOST_VERTICES, check_vertices, is_integer_within, is_pair, is_sequence, is_vertex
from middlewebs.errors import InvalidGraph, InvalidNumber, TooLarge

LEAST_CYCLE = 3
GREATEST_CUBE = 5


def _is_edge(size, value):
    """Whether the value is a pair (a, b) with 0 <= a < b < size."""
    if not is_pair(value):
        return False
    a, b = value
    return is_integer_within(a, 0, size - 1) and is_integer_within(b, a + 1, size - 1)


def _check_edges(size, edges):
    """Raise InvalidGraph unless these are ascending edges of so many vertices."""
    if not is_sequence(edges):
        raise InvalidGraph("edges", 0)
    before = ()
    for place, edge in enumerate(edges):
        if not _is_edge(size, edge) or edge <= before:
            raise InvalidGraph("edges", place)
        before = edge


def _neighbor_rows(size, edges):
    """The ascending tuple of the neighbors of each vertex."""
    rows = [[] for _ in range(size)]
    # The edges are ascending, so each vertex first meets its lesser neighbors and each row comes out ascending.
    for a, b in edges:
        rows[a].append(b)
        rows[b].append(a)
    return tuple([tuple(row) for row in rows])


def _distances_from(near, start):
    """The distance of each vertex from one of them, -1 where no path leads."""
    found = [-1 for _ in near]
    found[start] = 0
    queue = [start]
    at = 0
    while at < len(queue):
        vertex = queue[at]
        at = at + 1
        for neighbor in near[vertex]:
            if found[neighbor] < 0:
                found[neighbor] = found[vertex] + 1
                queue.append(neighbor)
    return tuple(found)


def _check_number(number, least, greatest):
    """Raise InvalidNumber unless the number is an integer from the least to the greatest one."""
    if not is_integer_within(number, least, greatest):
        raise InvalidNumber(number)


def _path_edges(number):
    """The edges that join each of so many vertices to the next one."""
    return [(vertex, vertex + 1) for vertex in range(number - 1)]


def _product_edges(one, other):
    """The edges of the product of two graphs, ascending."""
    edges = []
    # The pairs that share the first entry are numbered side by side, so their edges come before the others.
    for a in one:
        for b in other:
            vertex = a * other.size + b
            edges.extend([(vertex, a * other.size + c) for c in other.neighbors(b) if c > b])
            edges.extend([(vertex, c * other.size + b) for c in one.neighbors(a) if c > a])
    return edges


class Graph:
    """A connected graph with the vertices 0 to size - 1; distances[a][b] is the distance of a and b."""

    def __init__(self, size, edges):
        if not is_integer_within(size, 1, MOST_VERTICES):
            raise InvalidGraph("size", 0)
        _check_edges(size, edges)
        near = _neighbor_rows(size, edges)
        if -1 in _distances_from(near, 0):
            raise InvalidGraph("parts", 0)
        self.size = size
        self.edges = tuple(edges)
        # Nearly every question about a graph needs distances, so they are worked out only once.
        self.distances = tuple([_distances_from(near, vertex) for vertex in range(size)])
        self._near = near
        self._vertices = tuple(range(size))

    @classmethod
    def path(cls, number):
        """The graph of so many vertices in which each is joined to the next one."""
        _check_number(number, 1, MOST_VERTICES)
        return cls(number, _path_edges(number))

    @classmethod
    def cycle(cls, number):
        """The path of so many vertices with its last one joined to vertex 0."""
        _check_number(number, LEAST_CYCLE, MOST_VERTICES)
        return cls(number, sorted(_path_edges(number) + [(0, number - 1)]))

    @classmethod
    def cube(cls, number):
        """The graph of the words of so many letters, joined if exactly one letter is unlike."""
        _check_number(number, 0, GREATEST_CUBE)
        letter = cls(2, [(0, 1)])
        words = cls(1, [])
        for _ in range(number):
            words = words * letter
        return words

    def neighbors(self, vertex):
        """The ascending tuple of the vertices joined to this one."""
        check_vertices(self, (vertex,))
        return self._near[vertex]

    def __len__(self):
        return len(self._vertices)

    def __iter__(self):
        return iter(self._vertices)

    def __contains__(self, value):
        if not is_pair(value):
            return False
        a, b = value
        return is_vertex(self, a) and is_vertex(self, b) and b in self._near[a]

    def __eq__(self, other):
        if not isinstance(other, Graph):
            return False
        return self.size == other.size and self.edges == other.edges

    def __mul__(self, other):
        if not isinstance(other, Graph):
            return NotImplemented
        if self.size * other.size > MOST_VERTICES:
            raise TooLarge("vertices")
        return Graph(self.size * other.size, _product_edges(self, other))
