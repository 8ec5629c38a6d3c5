"""Things to test with, and slow answers worked out from the words of the document alone."""

import random
import unittest
from functools import lru_cache
from itertools import combinations, product

from middlewebs.errors import MiddleError
from middlewebs.graphs import Graph

TREE_EDGES = [(0, 1), (0, 2), (1, 3), (1, 4), (2, 5), (5, 6)]
LADDER_WITH_TAIL = [(0, 1), (0, 2), (1, 3), (2, 3), (2, 4), (3, 5), (4, 5), (5, 6)]
# A cube without one of its vertices: three vertices have no median.
THREE_SQUARES = [(0, 1), (0, 2), (0, 3), (1, 4), (1, 5), (2, 4), (2, 6), (3, 5), (3, 6)]


def median_graphs():
    return [
        Graph(1, []),
        Graph.path(2),
        Graph.path(7),
        Graph.cycle(4),
        Graph.cube(3),
        Graph(4, [(0, 1), (0, 2), (0, 3)]),
        Graph(7, TREE_EDGES),
        Graph(7, LADDER_WITH_TAIL),
        Graph.path(3) * Graph.path(3),
        Graph.path(5) * Graph.path(2),
        Graph(4, [(0, 1), (0, 2), (0, 3)]) * Graph.path(2),
    ]


def other_graphs():
    return [
        Graph.cycle(3),
        Graph.cycle(5),
        Graph.cycle(6),
        Graph.cycle(9),
        Graph(4, [(0, 1), (0, 2), (0, 3), (1, 2), (1, 3), (2, 3)]),
        Graph(4, [(0, 1), (0, 2), (1, 2), (1, 3), (2, 3)]),
        Graph(5, [(0, 2), (0, 3), (0, 4), (1, 2), (1, 3), (1, 4)]),
        Graph(7, THREE_SQUARES),
        Graph.cycle(3) * Graph.path(3),
    ]


def large_graphs():
    complete = [(a, b) for a in range(40) for b in range(a + 1, 40)]
    return [
        Graph.path(40),
        Graph.cycle(40),
        Graph.cube(5),
        Graph.path(8) * Graph.path(5),
        Graph.cube(3) * Graph.path(5),
        Graph.cycle(20) * Graph.path(2),
        Graph(40, [(0, k) for k in range(1, 40)]),
        Graph(40, complete),
    ]


def all_graphs():
    return median_graphs() + other_graphs() + large_graphs()


def joined(size, pairs):
    """The graph with these edges, whose ends and order are as it comes."""
    return Graph(size, sorted({(min(a, b), max(a, b)) for a, b in pairs}))


def renamed_by(graph, names):
    """The graph in which names[v] is what v is here."""
    return joined(graph.size, [(names[a], names[b]) for a, b in graph.edges])


def mixed(graph, step):
    """The graph renamed: its vertices are counted off in steps that have no common divisor with its size."""
    while any(step % k == 0 and graph.size % k == 0 for k in range(2, graph.size + 1)):
        step += 1
    return renamed_by(graph, [(step * v + step) % graph.size for v in graph])


def connected(size, edges):
    reached = {0}
    while True:
        more = reached | {b for a, b in edges if a in reached} | {a for a, b in edges if b in reached}
        if more == reached:
            return len(reached) == size
        reached = more


@lru_cache(maxsize=None)
def tiny_graphs(most):
    """All graphs of at most so many vertices."""
    graphs = []
    for size in range(1, most + 1):
        pairs = list(combinations(range(size), 2))
        for bits in range(2 ** len(pairs)):
            edges = [pair for k, pair in enumerate(pairs) if bits >> k & 1]
            if connected(size, edges):
                graphs.append(Graph(size, edges))
    return tuple(graphs)


def expanded_by_hand(graph, subset):
    """The graph with a copy of each vertex of the subset, joined to it and to the copies of its neighbors."""
    copies = {v: graph.size + k for k, v in enumerate(subset)}
    between = [(copies[a], copies[b]) for a, b in graph.edges if a in copies and b in copies]
    return joined(graph.size + len(subset), [*graph.edges, *copies.items(), *between])


@lru_cache(maxsize=None)
def grown_graphs():
    """Median graphs of many sizes, each built from one vertex by expansions over convex subsets."""
    graphs = []
    state = 7
    for most in (3, 6, 9, 12, 16, 20, 25, 30, 35, 40):
        graph = Graph(1, [])
        while graph.size < most:
            table = table_of(graph)
            state = (state * 1103515245 + 12345) % 2 ** 31
            a, b, far = state % graph.size, state // 64 % graph.size, state // 4096 % 4
            subset = interval_in(table, a, b) if far else tuple(graph)
            # In a median graph every interval is convex; one that is too large gives way to a single vertex.
            graph = expanded_by_hand(graph, subset if graph.size + len(subset) <= most else (a,))
        graphs.append(mixed(graph, 7))
    return tuple(graphs)


def one_edge_more_or_less(graph):
    """The graphs that have all but one of the edges, or all of them and one more."""
    edges = list(graph.edges)
    less = [[edge for edge in edges if edge != gone] for gone in edges]
    more = [edges + [pair] for pair in combinations(range(graph.size), 2) if pair not in edges]
    return [joined(graph.size, some) for some in less + more if connected(graph.size, some)]


def changed_graphs():
    """Median graphs with one edge more or less."""
    return [changed for graph in median_graphs() for changed in one_edge_more_or_less(graph)]


def many_median_graphs():
    """Median graphs of 1 to 40 vertices, also renamed ones."""
    large = [Graph.path(40), Graph.cube(5), Graph.path(8) * Graph.path(5), Graph.cube(3) * Graph.path(5)]
    large.append(Graph(40, [(0, k) for k in range(1, 40)]))
    graphs = median_graphs() + list(grown_graphs()) + large
    return graphs + [mixed(graph, 5) for graph in median_graphs() + large]


def complete_pair(one, other):
    """The graph in which each of the first vertices is joined to each of the others."""
    return Graph(one + other, [(a, b) for a in range(one) for b in range(one, one + other)])


def other_large_graphs():
    """Graphs of many vertices that are no median graphs: some without sides, then some with sides."""
    complete = Graph(40, list(combinations(range(40), 2)))
    without_sides = [complete, Graph.cycle(39), Graph.cycle(3) * Graph.path(13), Graph.cycle(5) * Graph.cycle(8)]
    with_sides = [
        Graph.cycle(40), Graph.cycle(20) * Graph.path(2), complete_pair(2, 38), complete_pair(20, 20),
        Graph.cycle(6) * Graph.cycle(6), Graph(7, THREE_SQUARES) * Graph.path(5),
    ]
    return without_sides + with_sides + [mixed(graph, 11) for graph in with_sides]


def table_of(graph):
    """All distances, by going through each vertex in turn as a way between each two others."""
    far = 10 ** 6
    size = graph.size
    table = [[0 if a == b else far for b in range(size)] for a in range(size)]
    for a, b in graph.edges:
        table[a][b] = table[b][a] = 1
    for middle in range(size):
        for a in range(size):
            for b in range(size):
                table[a][b] = min(table[a][b], table[a][middle] + table[middle][b])
    return table


def interval_in(table, a, b):
    return tuple(v for v in range(len(table)) if table[a][v] + table[v][b] == table[a][b])


def is_convex_in(table, subset):
    return all(set(interval_in(table, a, b)) <= set(subset) for a in subset for b in subset)


def is_median_in(table):
    for three in combinations(range(len(table)), 3):
        a, b, c = [set(interval_in(table, x, y)) for x, y in combinations(three, 2)]
        if len(a & b & c) != 1:
            return False
    return True


def subsets_of(size):
    """All ascending tuples of the vertices."""
    return [subset for many in range(size + 1) for subset in combinations(range(size), many)]


def convex_subsets_in(table):
    return [subset for subset in subsets_of(len(table)) if is_convex_in(table, subset)]


def no_vertices(graph):
    """Values of all kinds that are no vertex of the graph."""
    size = graph.size
    return [
        -1, size, size + 1, 40, 10 ** 30, -(10 ** 30), True, False, None, "", "0", "vertex",
        (), (0,), [], [0], graph, Graph.path(2),
    ]


def no_edges(graph):
    """Values of all kinds that are no pair of joined vertices of the graph, in which (0, 1) are joined."""
    wrong = [(0, value) for value in no_vertices(graph)] + [(value, 1) for value in no_vertices(graph)]
    apart = [(a, b) for a in graph for b in graph if (min(a, b), max(a, b)) not in graph.edges]
    return wrong + apart[:9] + apart[-9:] + [
        None, True, False, 0, 1, -1, 10 ** 30, "", "01", "0-1", (), (0,), (0, 1, 0), (0, 1, 1), [], [0, 1], [1, 0],
        ((0, 1),), [(0, 1)], ((0, 1), (0, 1)), ((0,), (1,)), ([0], [1]), (0, [1]), graph, Graph.path(2),
    ]


def no_subsets(graph):
    """Values of all kinds that are no subset of the graph, of three or more vertices."""
    wrong_members = [(value,) for value in no_vertices(graph)]
    wrong_later = [(0, value) for value in no_vertices(graph)]
    return wrong_members + wrong_later + [
        None, True, False, 0, 1, "", "0", "01", [], [0], [0, 1], graph,
        (1, 0), (0, 0), (0, 2, 1), (0, 1, 1), (2, 0, 1), tuple(range(graph.size + 1)), ((0, 1),), (0, (1,)),
    ]


def nested(value, times):
    return (nested(value, times - 1),) if times else value


DEEP = nested(0, 10)


def all_words(length):
    return list(product((0, 1), repeat=length))


def majority_of(one, other, third):
    return tuple(1 if x + y + z >= 2 else 0 for x, y, z in zip(one, other, third))


def closure_of(words):
    """The least set that has the words and the majority of every three of its members."""
    found = set(words)
    while True:
        more = found | {majority_of(*three) for three in combinations(sorted(found), 3)}
        if more == found:
            return sorted(found)
        found = more


@lru_cache(maxsize=None)
def word_sets():
    """Pairs of a length from 0 to 5 and some ascending words of it, closed and not, reduced and not."""
    picked = random.Random(13)
    pairs = [(0, [()]), (1, [(0,)]), (1, [(1,)]), (1, [(0,), (1,)])]
    for length in range(2, 6):
        pairs.append((length, all_words(length)))
        for _ in range(12 * length):
            some = picked.sample(all_words(length), picked.randint(1, min(8, 2 ** length)))
            if picked.random() < 0.3:
                some = closure_of(some)
            if picked.random() < 0.3:
                # One more letter that is linked to another one or constant.
                k = picked.randrange(length)
                some = [word + ((1 - word[k],) if k % 2 == 0 else (word[0],) if k == 1 else (1,)) for word in some]
            pairs.append((len(some[0]), sorted(some)))
    return tuple(pairs)


def steps_of(length):
    """The words 00..0, 10..0, 110..0 and so on, ascending."""
    return [(1,) * k + (0,) * (length - k) for k in range(length + 1)]


def single_letters(length):
    """The words with exactly one letter 1, ascending."""
    return sorted(tuple(int(k == at) for k in range(length)) for at in range(length))


def no_words(length):
    """Values of all kinds that are no word of this length, which is 2 at least."""
    right = (0,) * length
    letters = [True, False, None, "", "0", "1", 2, -1, 3, 10 ** 30, -(10 ** 30), (), (0,), [], [0], [1], Graph(1, [])]
    lacking = [right[:-1], right + (0,), (), (0,), right * 40, [], [0] * length, list(right)]
    wrong = [right[:k] + (letter,) + right[k + 1:] for letter in letters for k in (0, length - 1)]
    return lacking + wrong + [
        None, True, False, 0, 1, -1, 10 ** 30, "", "0" * length, "1" * length, (right,), [right], Graph.path(2),
        DEEP, (True,) * length, tuple(letter == 1 for letter in right),
    ]


def no_numbers(least, greatest):
    """Values of all kinds that are no integer from the least to the greatest one, which are small."""
    return [
        least - 1, greatest + 1, greatest + 2, 100, 10 ** 30, -(10 ** 30), True, False, None, "", str(greatest),
        (), (1,), [], [1], [[1]], Graph(1, []),
    ]


def no_sequences():
    """Values of all kinds that are neither lists nor tuples."""
    return [None, True, False, 0, 1, -1, 10 ** 30, "", "0", "01", "abc", Graph(1, []), Graph.path(3)]


def literals_of(letters):
    return [(place, bit) for place in range(letters) for bit in (0, 1)]


def clauses_of(letters):
    """All clauses for words of so many letters, ascending."""
    literals = literals_of(letters)
    return sorted([(one,) for one in literals] + [pair for pair in combinations(literals, 2) if pair[0][0] < pair[1][0]])


def is_true_in(clause, word):
    return any(word[place] == bit for place, bit in clause)


def settings_of(letters, clauses):
    return [word for word in all_words(letters) if all(is_true_in(clause, word) for clause in clauses)]


@lru_cache(maxsize=None)
def clause_sets():
    """Pairs of a number of letters from 0 to 5 and some ascending clauses, with settings and without."""
    picked = random.Random(29)
    pairs = [(0, []), (1, []), (1, clauses_of(1)), (2, clauses_of(2)), (3, clauses_of(3)), (5, [])]
    for letters in range(1, 6):
        for _ in range(40):
            every = clauses_of(letters)
            pairs.append((letters, sorted(picked.sample(every, min(len(every), picked.randint(0, 3 * letters))))))
    return tuple(pairs)


def step_clauses(letters):
    """Clauses that hold for the words of steps_of alone."""
    return [((k, 1), (k + 1, 0)) for k in range(letters - 1)]


def no_clauses(letters):
    """Values of all kinds that are no clause for words of so many letters, which are 3 at least."""
    numbers = [-1, letters, letters + 1, 10 ** 30, True, False, None, "", "0", (), (0,), [], [0], Graph(1, [])]
    bits = [-1, 2, 3, 10 ** 30, True, False, None, "", "0", "1", (), (0,), [], [1], Graph(1, [])]
    literals = [(place, 0) for place in numbers] + [(0, bit) for bit in bits]
    literals += [None, 0, 1, True, "", "00", (), (0,), (0, 1, 0), [], [0, 1], Graph.path(2)]
    wrong = [(literal,) for literal in literals] + [(literal, (2, 1)) for literal in literals]
    wrong += [((0, 1), literal) for literal in literals]
    return wrong + literals + [
        ((0, 0), (0, 0)), ((0, 0), (0, 1)), ((0, 1), (0, 0)), ((1, 0), (0, 0)), ((2, 1), (0, 1)), (0, 1),
        ((0, 0), (1, 0), (2, 0)), [(0, 0)], [(0, 0), (1, 0)], ([0, 0],), ((0, 0), [1, 0]), (((0, 0),),), ((0, 0), ((1, 0),)), "0", "!0 1", [],
        DEEP,
    ]


def states_of(many, causes, conflicts):
    """All states, those with fewer events first and those with as many ascending."""
    tried = [state for size in range(many + 1) for state in combinations(range(many), size)]
    return [
        state for state in tried
        if all(a in state for a, b in causes if b in state)
        and not any(a in state and b in state for a, b in conflicts)
    ]


@lru_cache(maxsize=None)
def event_sets():
    """Triples of a number of events from 0 to 6, causes and conflicts, few and many, in any order."""
    picked = random.Random(41)
    triples = [(0, [], []), (1, [], []), (2, [(1, 0)], []), (2, [(0, 1)], [(0, 1)]), (5, [], []), (6, [], [])]
    for many in range(2, 7):
        pairs = list(combinations(range(many), 2))
        for _ in range(30):
            order = picked.sample(range(many), many)
            often, seldom = picked.choice([(0.5, 0.1), (0.1, 0.5), (0.3, 0.3), (0.1, 0.05), (0.4, 0)])
            causes = [(order[a], order[b]) for a, b in pairs if picked.random() < often]
            triples.append((many, sorted(causes), [pair for pair in pairs if picked.random() < seldom]))
    return tuple(triples)


def no_states(many):
    """Values of all kinds that are no ascending tuples of events, of which there are 3 at least."""
    numbers = [-1, many, many + 1, 10 ** 30, -(10 ** 30), True, False, None, "", "0", (), (0,), [], [0], Graph(1, [])]
    return [(number,) for number in numbers] + [(0, number) for number in numbers] + [
        None, True, False, 0, 1, -1, "", "0", "012", [], [0], [0, 1], [[0]], Graph(1, []), Graph.path(many),
        (1, 0), (0, 0), (0, 2, 1), (0, 1, 1), tuple(range(many + 1)), ((0, 1),), DEEP,
    ]


def outcome(call, *args, **named):
    """What the call returns, or the class and the arguments of its error."""
    try:
        return ("returned", call(*args, **named))
    except MiddleError as error:
        return (type(error).__name__, *vars(error).values())


def same_kind(one, other):
    """Whether two values are equal and of the same kinds, within tuples and lists, too."""
    if type(one) is not type(other):
        return False
    if isinstance(one, (tuple, list)):
        return len(one) == len(other) and all(map(same_kind, one, other))
    return one == other


def laid_out(value):
    """A copy of a value in which objects of the package give way to their attributes."""
    if isinstance(value, (list, tuple)):
        return (type(value).__name__, [laid_out(member) for member in value])
    if isinstance(value, dict):
        return (type(value).__name__, [(name, laid_out(member)) for name, member in value.items()])
    if type(value).__module__.startswith("middlewebs."):
        return (type(value).__name__, laid_out(vars(value)))
    return (type(value).__name__, value)


class Case(unittest.TestCase):

    def assert_same(self, found, expected):
        self.assertTrue(same_kind(found, expected), f"{found!r} is not {expected!r}")

    def assert_told(self, error_class, attributes, call, *args, **named):
        """The call raises just this error, with these attributes as its arguments."""
        with self.assertRaises(error_class) as caught:
            call(*args, **named)
        error = caught.exception
        self.assertIs(type(error), error_class)
        self.assertEqual(sorted(vars(error)), sorted(attributes))
        for name in attributes:
            self.assert_same(getattr(error, name), attributes[name])
        return error

    def assert_refused(self, error_class, call, *args, **named):
        """The call raises this error with just its last argument, and leaves all of its arguments as they were."""
        before = laid_out((args, named))
        value = list(named.values())[-1] if named else args[-1]
        error = self.assert_told(error_class, {"value": value}, call, *args, **named)
        self.assertIs(error.value, value)
        self.assertEqual(laid_out((args, named)), before)
