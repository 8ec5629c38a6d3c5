"""The median graph of the states of events, and the events of a median graph with a start vertex."""

from middlewebs.bits import bits_of, has_one_place, has_place
from middlewebs.checks import check_vertices
from middlewebs.events import Events, foes_of, impossible, past_of, states
from middlewebs.graphs import Graph
from middlewebs.labelings import labeling
from middlewebs.medians import check_median_graph


def events_graph(events):
    """The graph whose vertex k is the state k; two are joined if one has just one event more than the other."""
    found = [bits_of(state) for state in states(events)]
    many = len(found)
    edges = [(a, b) for a in range(many) for b in range(a + 1, many) if has_one_place(found[a] ^ found[b])]
    return Graph(many, edges)


def graph_events(graph, start):
    """The events of a median graph: crossing each parallel class, seen from the start."""
    check_vertices(graph, (start,))
    check_median_graph(graph)
    words = labeling(graph)
    places = range(len(words[start]))
    owners = [bits_of([vertex for vertex in graph if words[vertex][k] != words[start][k]]) for k in places]
    many = len(owners)
    causes = [(a, b) for a in range(many) for b in range(many) if a != b and owners[b] & ~owners[a] == 0]
    conflicts = [(a, b) for a in range(many) for b in range(a + 1, many) if owners[a] & owners[b] == 0]
    return Events(many, causes, conflicts)


def completed(events):
    """The events without the impossible ones, with all causes and conflicts that the states keep."""
    never = impossible(events)
    kept = [event for event in range(events.many) if event not in never]
    # The past of a possible event is a state, and those of two events together are one unless they are in conflict.
    # So pasts alone tell what all states keep, however many there are.
    pasts = [past_of(events, event) for event in kept]
    foes = [foes_of(events, event) for event in kept]
    many = len(kept)
    causes = [(a, b) for a in range(many) for b in range(many) if a != b and has_place(pasts[b], kept[a])]
    conflicts = [(a, b) for a in range(many) for b in range(a + 1, many) if foes[a] & pasts[b] != 0]
    return Events(many, causes, conflicts)
