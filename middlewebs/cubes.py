"""The cubes that a median graph consists of."""

from middlewebs.bits import number_of_word
from middlewebs.labelings import labeling
from middlewebs.medians import check_median_graph


def cubes(graph):
    """The tuple of all cubes, those with fewer vertices first and those with as many ascending."""
    check_median_graph(graph)
    numbers = [number_of_word(word) for word in labeling(graph)]
    found = [cube for vertex in graph for cube in _cubes_from(graph, numbers, vertex)]
    return tuple(sorted(found, key=lambda cube: (len(cube), cube)))


def cube_counts(graph):
    """The tuple of the numbers of cubes of dimension 0, 1 and so on."""
    # A cube of dimension d has 2 ** d vertices, a number of d + 1 binary digits.
    digits = [len(cube).bit_length() for cube in cubes(graph)]
    return tuple([digits.count(many) for many in range(1, digits[-1] + 1)])


def _cubes_from(graph, numbers, vertex):
    """The cubes of which this vertex is the one farthest from vertex 0, told by the numbers of the vertices' words."""
    # In a median graph any edges from a vertex to nearer ones span a cube; its words have any of their letters turned
    # over. A letter that is turned over on the way to vertex 0, whose word has only letters 0, makes the number less.
    found = [(numbers[vertex],)]
    for neighbor in graph.neighbors(vertex):
        letter = numbers[vertex] ^ numbers[neighbor]
        if numbers[neighbor] < numbers[vertex]:
            found = found + [cube + tuple([number ^ letter for number in cube]) for cube in found]
    return [tuple(sorted([numbers.index(number) for number in cube])) for cube in found]
