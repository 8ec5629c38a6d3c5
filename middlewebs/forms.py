"""The six forms of median graphs, and the ways from each to each other one."""

from middlewebs.clauses import Clauses
from middlewebs.errors import InvalidForm, Undefined
from middlewebs.eventgraphs import events_graph, graph_events
from middlewebs.events import Events
from middlewebs.folds import Folding, folded_words, folding
from middlewebs.graphs import Graph
from middlewebs.growth import Growth, grown, growth_of
from middlewebs.medians import check_median_graph
from middlewebs.names import names_to
from middlewebs.settings import clauses_words
from middlewebs.wordclauses import words_clauses
from middlewebs.wordgraphs import graph_words, words_graph
from middlewebs.words import Words, is_closed

FORMS = ("graph", "words", "clauses", "events", "growth", "folding")


def form_of(value):
    """The name of the form of which the value is an object."""
    if isinstance(value, Graph):
        return "graph"
    if isinstance(value, Words):
        return "words"
    if isinstance(value, Clauses):
        return "clauses"
    if isinstance(value, Events):
        return "events"
    if isinstance(value, Growth):
        return "growth"
    if isinstance(value, Folding):
        return "folding"
    raise InvalidForm(value)


def graph_of(value):
    """The median graph that an object of one of the six forms stands for."""
    form = form_of(value)
    if form == "graph":
        check_median_graph(value)
        return value
    if form == "words":
        return _graph_of_words(value)
    if form == "clauses":
        return words_graph(clauses_words(value))
    if form == "events":
        return events_graph(value)
    if form == "growth":
        return grown(value)
    return words_graph(folded_words(value))


def led(value, form):
    """The object of this form that comes of the graph of an object of any form."""
    if form not in FORMS:
        raise InvalidForm(form)
    graph = graph_of(value)
    if form == "graph":
        return graph
    if form == "events":
        return graph_events(graph, 0)
    if form == "growth":
        return growth_of(graph)[0]
    words = graph_words(graph)
    if form == "words":
        return words
    if form == "clauses":
        return words_clauses(words)
    return folding(words)


def are_alike(one, other):
    """Whether two objects, each of any form, stand for the same graph up to renaming."""
    first = graph_of(one)
    second = graph_of(other)
    try:
        names_to(first, second)
    except Undefined:
        return False
    return True


def _graph_of_words(words):
    """The graph of closed words."""
    if not is_closed(words):
        raise Undefined("median")
    return words_graph(words)
