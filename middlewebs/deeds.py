"""What the deeds of a desk make of its graph and its start."""

from middlewebs.boxes import contracted
from middlewebs.convex import gate
from middlewebs.errors import Undefined
from middlewebs.graphs import Graph
from middlewebs.growth import expanded, is_peripheral
from middlewebs.parallels import class_place, half, parallel_classes


def _expand(desk, subset):
    """The graph expanded over the subset; the start stays."""
    return (expanded(desk.graph, subset), desk.start)


def _peel(desk, a, b):
    """The graph without the half of (a, b), and the start or what it is joined to outside."""
    if not is_peripheral(desk.graph, half(desk.graph, (a, b))):
        raise Undefined("peripheral")
    # What a vertex of a peripheral half is joined to outside is its gate to the other half.
    return _keep(desk, b, a)


def _keep(desk, a, b):
    """The half of (a, b) alone, and the gate of the start to it."""
    kept = half(desk.graph, (a, b))
    names = {vertex: place for place, vertex in enumerate(kept)}
    edges = [(names[c], names[d]) for c, d in desk.graph.edges if c in names and d in names]
    return (Graph(len(kept), edges), names[gate(desk.graph, kept, desk.start)])


def _contract(desk, a, b):
    """The graph with all edges parallel to (a, b) contracted, and what the start becomes."""
    place = class_place(desk.graph, (a, b))
    graph, names = contracted(desk.graph, parallel_classes(desk.graph)[place])
    return (graph, names[desk.start])


def _start(desk, a):
    """The graph, and a as the start."""
    return (desk.graph, a)


DEEDS = {
    "expand": _expand,
    "peel": _peel,
    "keep": _keep,
    "contract": _contract,
    "start": _start,
}
