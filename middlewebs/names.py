"""Names from one graph to another: what the vertices of the first are called there."""

from middlewebs.checks import is_integer_within
from middlewebs.errors import InvalidNames, Undefined
from middlewebs.graphs import Graph


def are_names(one, other, value):
    """Whether the value names each vertex of the first graph by a vertex of the other, which just keeps the edges."""
    if one.size != other.size or not _is_renaming(one.size, value):
        return False
    return _renamed_edges(one, value) == other.edges


def names_to(one, other):
    """The first names from one graph to the other."""
    if one.size != other.size:
        raise Undefined("names")
    near, far = _pair_colors(one, other)
    domains = [[name for name in other if far[name][name] == near[vertex][vertex]] for vertex in one]
    leaders = [_first_twin(other, name) for name in other]
    left = list(one)
    while left:
        domains = _first_named(near, far, leaders, domains, left)
        if domains is None:
            raise Undefined("names")
        left = left[1:]
    return tuple([domain[0] for domain in domains])


def renamed(graph, names):
    """The graph in which each vertex has its name."""
    if not _is_renaming(graph.size, names):
        raise InvalidNames(names)
    return Graph(graph.size, _renamed_edges(graph, names))


def _is_renaming(size, value):
    """Whether the value is a tuple of all integers from 0 to size - 1, each once."""
    if not isinstance(value, tuple) or len(value) != size:
        return False
    return all([is_integer_within(name, 0, size - 1) for name in value]) and len(set(value)) == size


def _renamed_edges(graph, names):
    """The edges between the names, ascending."""
    pairs = [(names[a], names[b]) for a, b in graph.edges]
    return tuple(sorted([(min(pair), max(pair)) for pair in pairs]))


def _pair_colors(one, other):
    """For each graph rows of colors, one for each pair of vertices; names take pairs only to pairs of their color."""
    # Distances are such colors. Pairs of one color get unlike ones as long as the colors on the ways over each third
    # vertex tell them apart. The ways over the ends themselves tell the color so far.
    tables = [one.distances, other.distances]
    many = 0
    while True:
        ways = [[_ways_from(table, vertex) for vertex in one] for table in tables]
        kinds = sorted({kind for rows in ways for row in rows for kind in row})
        if len(kinds) == many:
            return tables
        many = len(kinds)
        colors = {kind: place for place, kind in enumerate(kinds)}
        tables = [[[colors[kind] for kind in row] for row in rows] for rows in ways]


def _ways_from(table, vertex):
    """For each vertex the colors of all ways of two steps that lead there from this one, in a fixed order."""
    # As this is greater than every color, each number stands for the colors of just one way.
    width = 2 * len(table) * len(table)
    first = table[vertex]
    return [tuple(sorted([a * width + b for a, b in zip(first, column)])) for column in zip(*table)]


def _first_twin(graph, vertex):
    """The first vertex that can change its name with this one while all others keep theirs."""
    return [twin for twin in graph if _others(graph, twin, vertex) == _others(graph, vertex, twin)][0]


def _others(graph, vertex, without):
    """The neighbors of a vertex but for one of them."""
    return [neighbor for neighbor in graph.neighbors(vertex) if neighbor != without]


def _first_named(near, far, leaders, domains, left):
    """The domains when the first vertex left has the first name with which the others can be named, or None."""
    for name in domains[left[0]]:
        narrowed = _narrowed(near[left[0]], far[name], domains)
        if _can_name(near, far, leaders, narrowed, left[1:]):
            return narrowed
    return None


def _narrowed(near, far, domains):
    """What is left of the domains when these are the colors beside a vertex and beside its name."""
    return [[name for name in domain if far[name] == near[vertex]] for vertex, domain in enumerate(domains)]


def _can_name(near, far, leaders, domains, left):
    """Whether the vertices left can be named out of their domains."""
    if len(left) == 0:
        return True
    # The fewer names are left for a vertex, the sooner it shows that there are none.
    vertex = min(left, key=lambda each: len(domains[each]))
    rest = [other for other in left if other != vertex]
    tried = set()
    for name in domains[vertex]:
        # What fails with one of two twins fails with the other one, too.
        if leaders[name] not in tried:
            tried.add(leaders[name])
            if _can_name(near, far, leaders, _narrowed(near[vertex], far[name], domains), rest):
                return True
    return False
