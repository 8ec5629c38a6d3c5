"""What a desk answers to questions."""

from middlewebs.convex import convex_hull, gate
from middlewebs.cubes import cube_counts
from middlewebs.distances import distance
from middlewebs.labelings import labeling
from middlewebs.medians import median
from middlewebs.parallels import class_place, parallel_classes
from middlewebs.totals import center
from middlewebs.writing import numbers_text, word_text


def size_answer(desk):
    """The numbers of vertices, edges and parallel classes."""
    graph = desk.graph
    return f"{graph.size} {len(graph.edges)} {len(parallel_classes(graph))}"


def _distance_answer(desk, a, b):
    """The distance of two vertices."""
    return str(distance(desk.graph, a, b))


def _median_answer(desk, a, b, c):
    """The median of three vertices."""
    return str(median(desk.graph, a, b, c))


def _hull_answer(desk, subset):
    """The least convex subset that has these vertices."""
    return numbers_text(convex_hull(desk.graph, subset))


def _gate_answer(desk, subset, a):
    """The gate of a vertex to the least convex subset that has these vertices."""
    return str(gate(desk.graph, convex_hull(desk.graph, subset), a))


def _center_answer(desk):
    """The vertices of the center."""
    return numbers_text(center(desk.graph))


def _cubes_answer(desk):
    """The numbers of cubes of each dimension."""
    return numbers_text(cube_counts(desk.graph))


def _word_answer(desk, a):
    """The word of a vertex, seen from the start."""
    words = labeling(desk.graph)
    return word_text([one ^ other for one, other in zip(words[a], words[desk.start])])


def _letter_answer(desk, a, b):
    """The place of the parallel class of an edge."""
    return str(class_place(desk.graph, (a, b)))


QUESTIONS = {
    "size": size_answer,
    "distance": _distance_answer,
    "median": _median_answer,
    "hull": _hull_answer,
    "gate": _gate_answer,
    "center": _center_answer,
    "cubes": _cubes_answer,
    "word": _word_answer,
    "letter": _letter_answer,
}
