"""Points [35] and [36]: desks, their commands, and the errors of these."""

import copy
import random
import re
import unittest
from itertools import combinations
from math import comb

from helper import (
    LADDER_WITH_TAIL, Case, changed_graphs, expanded_by_hand, grown_graphs, interval_in, is_convex_in, is_median_in,
    joined, laid_out, many_median_graphs, median_graphs, mixed, other_graphs, other_large_graphs, outcome, renamed_by,
    table_of, tiny_graphs,
)
from middlewebs.desk import Desk, replayed_desk
from middlewebs.errors import (
    InvalidCommand, InvalidEdge, InvalidNumber, InvalidSubset, NothingToUndo, TooLarge, Undefined, UnknownCommand,
)
from middlewebs.graphs import Graph
from middlewebs.growth import Growth
from middlewebs.medians import is_median_graph

SQUARE = Graph(4, [(0, 1), (0, 2), (1, 3), (2, 3)])
STAR = Graph(4, [(0, 1), (0, 2), (0, 3)])
# For each command the kinds of the words behind it: N is a number, S a set.
KINDS = {
    "expand": "S", "peel": "NN", "keep": "NN", "contract": "NN", "start": "N", "size": "", "distance": "NN",
    "median": "NNN", "hull": "S",
    "gate": "SN", "center": "", "cubes": "", "word": "N", "letter": "NN", "undo": "", "redo": "",
}
DEEDS = ("expand", "peel", "keep", "contract", "start")
QUESTIONS = ("size", "distance", "median", "hull", "gate", "center", "cubes", "word", "letter")


def parse(command):
    """The first word and the numbers and sets behind it, or the error that the command's form gives."""
    word, *rest = command.split(" ")
    if word not in KINDS:
        return ("UnknownCommand", word)
    at, values = len(word) + 1, []
    for k, text in enumerate(rest):
        kind = KINDS[word][k:k + 1]
        pattern = {"N": "(0|[1-9][0-9]?)", "S": "((0|[1-9][0-9]?),)*(0|[1-9][0-9]?)", "": "(?!)"}[kind]
        numbers = [int(part) for part in text.split(",")] if re.fullmatch(pattern, text, re.ASCII) else None
        if numbers is None or numbers != sorted(set(numbers)):
            return ("InvalidCommand", command, at)
        values.append(tuple(numbers) if kind == "S" else numbers[0])
        at += len(text) + 1
    if len(rest) < len(KINDS[word]):
        return ("InvalidCommand", command, len(command))
    return (word, values)


class Model:
    """A desk that works every answer out from the words of the points, by distances alone."""

    def __init__(self, graph):
        self.graph, self.start, self.commands = graph, 0, ()
        self.past, self.undone = [], []

    def run(self, command):
        parsed = parse(command)
        if parsed[0] not in KINDS:
            return parsed
        word, values = parsed
        for value in values:
            for number in value if isinstance(value, tuple) else [value]:
                if number >= self.graph.size:
                    return ("InvalidNumber", number)
        self.table = table_of(self.graph)
        if word in QUESTIONS:
            return getattr(self, "do_" + word)(*values)
        now = (self.graph, self.start, self.commands)
        if word in ("undo", "redo"):
            come, go = (self.past, self.undone) if word == "undo" else (self.undone, self.past)
            if not come:
                return ("NothingToUndo", word)
            go.append(now)
            self.graph, self.start, self.commands = come.pop()
            return self.do_size()
        told = getattr(self, "do_" + word)(*values)
        if isinstance(told[0], str):
            return told
        self.past.append(now)
        self.undone = []
        (self.graph, self.start), self.commands = told, self.commands + (command,)
        return self.do_size()

    def nearer(self, a, b):
        return [v for v in range(self.graph.size) if self.table[v][a] < self.table[v][b]]

    def joined_by(self, a, b):
        return self.table[a][b] == 1

    def without(self, gone):
        left = [v for v in range(self.graph.size) if v not in gone]
        edges = [(left.index(a), left.index(b)) for a, b in self.graph.edges if a in left and b in left]
        return Graph(len(left), sorted(edges)), left

    def do_expand(self, subset):
        if not is_convex_in(self.table, subset):
            return ("InvalidSubset", subset)
        if self.graph.size + len(subset) > 40:
            return ("TooLarge", "vertices")
        return (expanded_by_hand(self.graph, subset), self.start)

    def do_peel(self, a, b):
        if not self.joined_by(a, b):
            return ("InvalidEdge", (a, b))
        gone = self.nearer(a, b)
        outside = {v: [w for w in range(self.graph.size) if self.table[v][w] == 1 and w not in gone] for v in gone}
        if not all(outside.values()):
            return ("Undefined", "peripheral")
        graph, left = self.without(gone)
        return (graph, left.index(outside[self.start][0] if self.start in gone else self.start))

    def do_keep(self, a, b):
        if not self.joined_by(a, b):
            return ("InvalidEdge", (a, b))
        graph, left = self.without(self.nearer(b, a))
        return (graph, left.index(self.gate_in(left, self.start)))

    def gate_in(self, subset, vertex):
        return [g for g in subset if all(g in interval_in(self.table, vertex, w) for w in subset)][0]

    def parallel(self, one, other):
        (a, b), (c, d) = one, other
        return self.table[a][c] + self.table[b][d] != self.table[a][d] + self.table[b][c]

    def do_contract(self, a, b):
        if not self.joined_by(a, b):
            return ("InvalidEdge", (a, b))
        names = list(range(self.graph.size))
        for c, d in self.graph.edges:
            if self.parallel((a, b), (c, d)):
                names = [min(names[c], names[d]) if name == max(names[c], names[d]) else name for name in names]
        left = sorted(set(names))
        names = [left.index(name) for name in names]
        edges = {tuple(sorted((names[c], names[d]))) for c, d in self.graph.edges if names[c] != names[d]}
        return (Graph(len(left), sorted(edges)), names[self.start])

    def classes(self):
        found = []
        for edge in self.graph.edges:
            if not any(self.parallel(edge, members[0]) for members in found):
                found.append([other for other in self.graph.edges if self.parallel(edge, other)])
        return found

    def do_start(self, v):
        return (self.graph, v)

    def do_size(self):
        self.table = table_of(self.graph)
        return ("returned", f"{self.graph.size} {len(self.graph.edges)} {len(self.classes())}")

    def do_distance(self, a, b):
        return ("returned", str(self.table[a][b]))

    def do_median(self, a, b, c):
        between = [set(interval_in(self.table, *pair)) for pair in ((a, b), (a, c), (b, c))]
        found, = between[0] & between[1] & between[2]
        return ("returned", str(found))

    def hull_of(self, subset):
        hull = set(subset)
        while not is_convex_in(self.table, hull):
            hull = hull.union(*[interval_in(self.table, a, b) for a in hull for b in hull])
        return sorted(hull)

    def do_hull(self, subset):
        return ("returned", ",".join(map(str, self.hull_of(subset))))

    def do_gate(self, subset, a):
        return ("returned", str(self.gate_in(self.hull_of(subset), a)))

    def do_center(self):
        totals = [sum(row) for row in self.table]
        return ("returned", ",".join(str(v) for v, far in enumerate(totals) if far == min(totals)))

    def do_cubes(self):
        # Seen from vertex 0 each cube has one farthest vertex, and any edges from it to nearer ones span a cube.
        down = [sum(self.table[v][w] == 1 and self.table[0][w] < self.table[0][v] for w in range(self.graph.size)) for v in range(self.graph.size)]
        return ("returned", ",".join(str(sum(comb(many, d) for many in down)) for d in range(max(down) + 1)))

    def do_word(self, v):
        letters = [int((v in self.nearer(*members[0])) != (self.start in self.nearer(*members[0]))) for members in self.classes()]
        return ("returned", "".join(map(str, letters)) or ".")

    def do_letter(self, a, b):
        if not self.joined_by(a, b):
            return ("InvalidEdge", (a, b))
        return ("returned", str([k for k, members in enumerate(self.classes()) if (min(a, b),
                                                                                   max(a, b)) in members][0]))


def some_command(picked, graph):
    """A command that fits the graph, or nearly."""
    word = picked.choice(list(DEEDS) * 2 + list(QUESTIONS) + ["undo", "redo"] * 4)
    size = graph.size
    if word in ("peel", "keep", "contract", "letter") and size > 1 and picked.random() < 0.9:
        a, b = picked.choice(graph.edges)
        return f"{word} {a} {b}" if picked.random() < 0.5 else f"{word} {b} {a}"
    if word == "expand" and picked.random() < 0.8:
        table = table_of(graph)
        subset = interval_in(table, picked.randrange(size), picked.randrange(size))
        return "expand " + ",".join(map(str, subset))
    most = size + picked.choice([0, 0, 0, 0, 0, 1, 60])
    values = []
    for kind in KINDS[word]:
        numbers = sorted(picked.sample(range(most), min(most,
                                                        picked.randint(1,
                                                                       3)))) if kind == "S" else [picked.randrange(most)]
        values.append(",".join(map(str, numbers)))
    command = " ".join([word, *values])
    if picked.random() < 0.1:
        at = picked.randrange(len(command) + 1)
        command = command[:at] + picked.choice([" ", "0", ",", "x", "-1", " 1"]) + command[at:]
    return command


def every_answer(desk):
    """The outcomes of all questions of few words, and of a few more."""
    size = desk.graph.size
    some = sorted({0, 1, size // 2, size - 1, size})
    commands = ["size", "center", "cubes"] + [f"word {v}" for v in range(size)] + [f"hull {v}" for v in some]
    commands += [f"{word} {a} {b}" for word in ("distance", "letter", "gate") for a in some for b in some]
    commands += [f"median {a} {b} {c}" for a, b, c in combinations(some, 3)]
    return [outcome(desk.run, command) for command in commands]


class Making(Case):

    def test_attributes(self):
        for graph in many_median_graphs():
            for desk in (Desk(graph), Desk(graph=graph)):
                self.assert_same(desk.graph, graph)
                self.assert_same(desk.start, 0)
                self.assert_same(desk.commands, ())
                self.assertLessEqual({"graph", "start", "commands"}, set(vars(desk)))

    def test_what_is_no_median_graph(self):
        for graph in other_graphs() + other_large_graphs() + [g for g in changed_graphs()[::5] if not is_median_graph(g)]:
            self.assert_told(Undefined, {"what": "median"}, Desk, graph)
            self.assert_told(Undefined, {"what": "median"}, Desk, graph=graph)
            self.assert_told(Undefined, {"what": "median"}, replayed_desk, graph, ["size"])


class Deeds(Case):

    def assert_run(self, desk, command, answer, graph, start):
        before = desk.commands
        self.assert_same(desk.run(command), answer)
        self.assert_same(desk.graph, graph)
        self.assert_same(desk.start, start)
        self.assert_same(desk.commands, before + (command,))

    def test_expand(self):
        desk = Desk(Graph(1, []))
        self.assert_run(desk, "expand 0", "2 1 1", Graph.path(2), 0)
        self.assert_run(desk, "expand 0,1", "4 4 2", SQUARE, 0)
        self.assert_run(desk, "start 3", "4 4 2", SQUARE, 3)
        self.assert_run(desk, "expand 3", "5 5 3", Graph(5, [*SQUARE.edges, (3, 4)]), 3)
        self.assert_run(desk, "expand 0,2", "7 8 4", expanded_by_hand(Graph(5, [*SQUARE.edges, (3, 4)]), (0, 2)), 3)

    def test_peel(self):
        desk = Desk(Graph(7, LADDER_WITH_TAIL))
        self.assert_run(desk, "peel 1 3", "5 5 3", Graph(5, [(0, 1), (0, 2), (1, 3), (2, 3), (3, 4)]), 0)
        desk = Desk(Graph.path(4))
        self.assert_run(desk, "peel 0 1", "3 2 2", Graph.path(3), 0)
        self.assert_run(desk, "peel 2 1", "2 1 1", Graph.path(2), 0)
        self.assert_run(desk, "start 1", "2 1 1", Graph.path(2), 1)
        self.assert_run(desk, "peel 0 1", "1 0 0", Graph(1, []), 0)

    def test_a_start_that_is_peeled_off(self):
        desk = Desk(SQUARE)
        self.assert_run(desk, "start 1", "4 4 2", SQUARE, 1)
        self.assert_run(desk, "peel 1 0", "2 1 1", Graph.path(2), 0)
        desk = replayed_desk(SQUARE, ["start 3"])
        self.assert_run(desk, "peel 2 0", "2 1 1", Graph.path(2), 1)
        desk = replayed_desk(SQUARE, ["start 3"])
        self.assert_run(desk, "peel 0 2", "2 1 1", Graph.path(2), 1)

    def test_keep(self):
        desk = replayed_desk(Graph.path(6), ["start 5"])
        self.assert_run(desk, "keep 2 3", "3 2 2", Graph.path(3), 2)
        self.assert_run(desk, "keep 1 0", "2 1 1", Graph.path(2), 1)
        self.assert_run(desk, "keep 0 1", "1 0 0", Graph(1, []), 0)
        desk = replayed_desk(Graph.path(3) * Graph.path(3), ["start 5"])
        self.assert_run(desk, "keep 3 4", "3 2 2", Graph.path(3), 1)
        desk = replayed_desk(Graph.path(3) * Graph.path(3), ["start 5"])
        self.assert_run(desk, "keep 4 3", "6 7 3", Graph.path(3) * Graph.path(2), 3)

    def test_contract(self):
        desk = replayed_desk(Graph.path(3) * Graph.path(3), ["start 7"])
        self.assert_run(desk, "contract 5 4", "6 7 3", Graph.path(3) * Graph.path(2), 5)
        self.assert_run(desk, "contract 0 2", "4 4 2", SQUARE, 3)
        self.assert_run(desk, "contract 3 2", "2 1 1", Graph.path(2), 1)
        self.assert_run(desk, "contract 1 0", "1 0 0", Graph(1, []), 0)

    def test_start(self):
        desk = Desk(STAR)
        for v in (3, 3, 0, 2):
            self.assert_run(desk, f"start {v}", "4 3 3", STAR, v)


class Questions(Case):

    def test_examples(self):
        desk = Desk(Graph.path(3) * Graph.path(2))
        for command, answer in (
            ("size", "6 7 3"), ("distance 0 5", "3"), ("distance 4 4", "0"), ("median 0 3 4", "2"),
            ("median 1 1 5", "1"), ("hull 0,3", "0,1,2,3"),
            ("hull 2", "2"), ("hull 1,4", "0,1,2,3,4,5"), ("gate 0,1 5", "1"), ("gate 4,5 0", "4"), ("gate 0,3 4", "2"),
            ("center", "2,3"),
            ("cubes", "6,7,2"), ("word 0", "000"), ("word 5", "111"), ("word 3", "110"), ("letter 0 1", "0"),
            ("letter 5 4", "0"), ("letter 2 0", "1"),
        ):
            self.assert_same(desk.run(command), answer)
            self.assert_same(desk.run(command=command), answer)
            self.assertEqual((desk.graph, desk.start, desk.commands), (Graph.path(3) * Graph.path(2), 0, ()))

    def test_words_are_seen_from_the_start(self):
        desk = Desk(Graph.path(4))
        self.assert_same(desk.run("word 2"), "110")
        desk.run("start 2")
        self.assert_same([desk.run(f"word {v}") for v in range(4)], ["110", "010", "000", "001"])

    def test_one_vertex(self):
        desk = Desk(Graph(1, []))
        for command, answer in (("size", "1 0 0"), ("word 0", "."), ("center", "0"), ("cubes", "1"), ("hull 0", "0"),
                                ("gate 0 0", "0"),
                                ("distance 0 0", "0"), ("median 0 0 0", "0"), ("start 0", "1 0 0")):
            self.assert_same(desk.run(command), answer)
        for word in ("letter", "peel", "keep", "contract"):
            self.assert_told(InvalidEdge, {"value": (0, 0)}, desk.run, f"{word} 0 0")

    def test_large_graphs(self):
        for graph in (Graph.path(40), Graph.cube(5), grown_graphs()[-1], mixed(Graph.path(8) * Graph.path(5), 7)):
            desk, model = Desk(graph), Model(graph)
            commands = ["size", "distance 0 31", "median 3 17 30", "hull 5,20", "gate 1,9 30", "center", "cubes",
                        "word 31", "start 20", "word 3",
                        "undo", "redo", "word 20", "expand 0,1,2,3,4,5,6,7,8,9"]
            for command in commands:
                self.assertEqual(outcome(desk.run, command), model.run(command))
        self.assert_same(Desk(Graph.path(40)).run("word 39"), "1" * 39)


class UndoAndRedo(Case):

    def test_nothing_to_undo_or_to_do_again(self):
        for desk in (Desk(SQUARE), replayed_desk(SQUARE, ["size", "word 1"])):
            for _ in range(2):
                self.assert_told(NothingToUndo, {"word": "undo"}, desk.run, "undo")
                self.assert_told(NothingToUndo, {"word": "redo"}, desk.run, "redo")
                self.assertEqual((desk.graph, desk.start, desk.commands), (SQUARE, 0, ()))
        desk = replayed_desk(SQUARE, ["start 1"])
        self.assert_told(NothingToUndo, {"word": "redo"}, desk.run, "redo")

    def test_back_and_again(self):
        desk = Desk(Graph(1, []))
        commands = ["expand 0", "start 1", "expand 1", "expand 0,1,2", "contract 1 4", "peel 2 1", "keep 0 1"]
        seen = [(desk.graph, desk.start, desk.commands)]
        for command in commands:
            desk.run(command)
            seen.append((desk.graph, desk.start, desk.commands))
        for _ in range(2):
            for state in reversed(seen[:-1]):
                answer = desk.run("undo")
                self.assert_same((desk.graph, desk.start, desk.commands), state)
                self.assert_same(answer, desk.run("size"))
            self.assert_told(NothingToUndo, {"word": "undo"}, desk.run, "undo")
            for state in seen[1:]:
                answer = desk.run("redo")
                self.assert_same((desk.graph, desk.start, desk.commands), state)
                self.assert_same(answer, desk.run("size"))
            self.assert_told(NothingToUndo, {"word": "redo"}, desk.run, "redo")

    def test_redo_behind_a_deed(self):
        for deed in ("expand 0", "peel 0 1", "keep 0 1", "contract 0 1", "start 0"):
            desk = replayed_desk(SQUARE, ["start 3", "start 2", "undo", "undo"])
            desk.run(deed)
            self.assert_told(NothingToUndo, {"word": "redo"}, desk.run, "redo")
            desk.run("undo")
            desk.run("redo")
            self.assert_same(desk.commands, (deed,))
            self.assert_told(NothingToUndo, {"word": "redo"}, desk.run, "redo")

    def test_redo_behind_redo_behind_questions_and_behind_errors(self):
        desk = replayed_desk(SQUARE, ["start 3", "expand 0", "start 4", "undo", "undo", "undo", "redo", "size",
                                      "word 1", "center"])
        for wrong in ("expand 0,3", "expand 1,2", "peel 0 3", "keep 0 0", "contract 1 2", "start 4", "start", "begin",
                      "letter 0 3", ""):
            self.assertNotEqual(outcome(desk.run, wrong)[0], "returned")
        self.assert_same(desk.commands, ("start 3",))
        self.assert_same(desk.run("redo"), "5 5 3")
        self.assert_same(desk.commands, ("start 3", "expand 0"))
        self.assert_same(desk.run("redo"), "5 5 3")
        self.assert_same(desk.start, 4)
        self.assert_told(NothingToUndo, {"word": "redo"}, desk.run, "redo")

    def test_undo_redo_and_undo_again(self):
        desk = replayed_desk(SQUARE, ["start 1", "start 2", "undo", "redo", "undo", "undo", "redo"])
        self.assert_same((desk.start, desk.commands), (1, ("start 1",)))
        desk.run("redo")
        self.assert_same((desk.start, desk.commands), (2, ("start 1", "start 2")))


class Errors(Case):

    def assert_state_kept(self, desk, command):
        """The command is refused, and a desk behaves as before."""
        before = laid_out(desk)
        other = replayed_desk(desk.graph, [f"start {desk.start}"])
        answers = every_answer(other)
        self.assertNotEqual(outcome(desk.run, command)[0], "returned")
        self.assertEqual(laid_out(desk), before)
        self.assertEqual(every_answer(desk), answers)

    def desks(self):
        return [Desk(SQUARE), replayed_desk(Graph.path(4), ["start 2", "start 1", "undo"]),
                replayed_desk(SQUARE, ["expand 0,1", "start 3"])]

    def test_unknown_commands(self):
        for desk in self.desks():
            for command, word in (
                ("", ""), (" ", ""), (" size", ""), ("  ", ""), ("sizes", "sizes"), ("Size", "Size"), ("SIZE", "SIZE"),
                ("graph", "graph"),
                ("expand,0 1", "expand,0"), ("peels 0 1", "peels"), ("0", "0"), ("size\n", "size\n"),
                ("size\t", "size\t"), ("begin 0 1 x", "begin"),
                ("undo,redo", "undo,redo"), ("set", "set"), ("words 0", "words"), ("cube", "cube"), ("-", "-"),
                ("start\u00a00", "start\u00a00"),
                ("commands", "commands"), ("run size", "run"), ("number", "number"),
            ):
                self.assert_told(UnknownCommand, {"word": word}, desk.run, command)
                self.assert_told(UnknownCommand, {"word": word}, desk.run, command=command)
                self.assert_state_kept(desk, command)

    def test_words_that_are_not_written_so(self):
        numbers = ["", "x", "-1", "+1", "00", "01", "007", "100", "999", "1.", "1e0", "1,2", "0,", ",", "\u0660",
                   "\u00b2", "0\n", "0\t", "!0", "0-1", "1" * 5000,
                   "()", "\u00bd", "0x1", "1_0"]
        sets = ["", "x", "-1", "00", "01", "100", ",", "0,", ",0", "0,,1", "1,0", "0,0", "0,1,1", "0,2,1", "0;1", "0,x",
                "0,01", "0,100", "3,2", "99,98",
                "(0,1)", "0.1", "0,\u0661", "0,-1", "1" * 5000, "0-1", "{0}"]
        for desk in self.desks():
            for word, kinds in KINDS.items():
                right = ["0,1" if kind == "S" else "1" for kind in kinds]
                for k, kind in enumerate(kinds):
                    for text in sets if kind == "S" else numbers:
                        at = len(" ".join([word, *right[:k]])) + 1
                        for rest in (right[k + 1:], [], ["x"], ["99"] * 5, [""]):
                            command = " ".join([word, *right[:k], text, *rest])
                            self.assert_told(InvalidCommand, {"command": command, "at": at}, desk.run, command)

    def test_words_that_are_lacking(self):
        for desk in self.desks():
            for word, kinds in KINDS.items():
                # Also if the words that are there tell no vertices.
                for right in (["0,1" if kind == "S" else "1" for kind in kinds],
                              ["98,99" if kind == "S" else "99" for kind in kinds]):
                    for k in range(len(kinds)):
                        command = " ".join([word, *right[:k]])
                        self.assert_told(InvalidCommand, {"command": command, "at": len(command)}, desk.run, command)
                        command += " "
                        self.assert_told(InvalidCommand, {"command": command, "at": len(command)}, desk.run, command)

    def test_words_too_many(self):
        for desk in self.desks():
            for word, kinds in KINDS.items():
                right = " ".join([word, *["0,1" if kind == "S" else "1" for kind in kinds]])
                for more in ("", "0", "1", "x", "0 0", " ", "  ", "0,1", "size", "99", "-1 0"):
                    command = right + " " + more
                    self.assert_told(InvalidCommand, {"command": command, "at": len(right) + 1}, desk.run, command)

    def test_two_spaces_and_a_space_at_the_end(self):
        desk = Desk(SQUARE)
        for command, at in (("distance  0 1", 9), ("distance 0  1", 11), ("distance 0 1 ", 13), ("distance 0 ", 11),
                            ("distance ", 9), ("size ", 5),
                            ("size  ", 5), ("undo ", 5), ("gate 0  1", 7), ("hull  0", 5), ("peel 0 1  ", 9),
                            ("expand 0, 1", 7)):
            self.assert_told(InvalidCommand, {"command": command, "at": at}, desk.run, command)
            self.assert_state_kept(desk, command)

    def test_the_first_number_that_is_no_vertex(self):
        for desk in (Desk(SQUARE), replayed_desk(Graph.path(4), ["start 2", "undo"])):
            for command, number in (
                ("start 4", 4), ("start 99", 99), ("word 10", 10), ("distance 4 5", 4), ("distance 0 5", 5),
                ("distance 9 0", 9), ("median 0 1 4", 4),
                ("median 7 8 9", 7), ("median 0 40 4", 40), ("hull 0,4", 4), ("hull 4,5", 4),
                ("hull 0,1,2,3,50,60", 50), ("gate 0,5 6", 5), ("gate 0,1 6", 6),
                ("gate 8 7", 8), ("expand 0,3,4", 4), ("expand 4", 4), ("expand 0,99", 99), ("peel 0 4", 4),
                ("peel 5 4", 5), ("keep 4 4", 4), ("keep 0 40", 40),
                ("contract 9 8", 9), ("letter 0 4", 4), ("letter 4 0", 4), ("peel 0 10", 10),
            ):
                self.assert_told(InvalidNumber, {"value": number}, desk.run, command)
                self.assert_state_kept(desk, command)

    def test_what_is_no_edge(self):
        for desk in (Desk(SQUARE), replayed_desk(SQUARE, ["start 3", "undo"])):
            for word in ("peel", "keep", "contract", "letter"):
                for a, b in ((0, 3), (3, 0), (1, 2), (2, 1), (0, 0), (3, 3)):
                    self.assert_told(InvalidEdge, {"value": (a, b)}, desk.run, f"{word} {a} {b}")
                    self.assert_state_kept(desk, f"{word} {a} {b}")

    def test_what_is_no_convex_subset(self):
        desk = Desk(SQUARE)
        for subset in ((0, 3), (1, 2), (0, 1, 2), (1, 2, 3)):
            command = "expand " + ",".join(map(str, subset))
            self.assert_told(InvalidSubset, {"value": subset}, desk.run, command)
            self.assert_state_kept(desk, command)

    def test_more_than_40_vertices(self):
        desk = Desk(Graph.path(39))
        self.assert_told(TooLarge, {"what": "vertices"}, desk.run, "expand 0,1")
        self.assert_same(desk.run("expand 38"), "40 39 39")
        self.assert_told(TooLarge, {"what": "vertices"}, desk.run, "expand 0")
        self.assert_told(InvalidSubset, {"value": (0, 2)}, desk.run, "expand 0,2")
        self.assert_told(InvalidNumber, {"value": 40}, desk.run, "expand 0,40")
        self.assert_state_kept(desk, "expand 39")
        self.assert_same(desk.commands, ("expand 38",))

    def test_halves_that_are_not_peripheral(self):
        desk = Desk(Graph.path(4))
        for command in ("peel 1 0", "peel 1 2", "peel 2 1", "peel 2 3"):
            self.assert_told(Undefined, {"what": "peripheral"}, desk.run, command)
            self.assert_state_kept(desk, command)
        self.assert_told(InvalidEdge, {"value": (0, 2)}, desk.run, "peel 0 2")
        self.assert_same(desk.run("peel 3 2"), "3 2 2")

    def test_the_order_of_errors(self):
        desk = Desk(SQUARE)
        self.assert_told(UnknownCommand, {"word": "go"}, desk.run, "go x 99 ")
        self.assert_told(InvalidCommand, {"command": "peel 99 x", "at": 8}, desk.run, "peel 99 x")
        self.assert_told(InvalidCommand, {"command": "peel 99", "at": 7}, desk.run, "peel 99")
        self.assert_told(InvalidCommand, {"command": "peel 0 99 0", "at": 10}, desk.run, "peel 0 99 0")
        self.assert_told(InvalidNumber, {"value": 99}, desk.run, "expand 0,3,99")
        self.assert_told(InvalidCommand, {"command": "undo 0", "at": 5}, desk.run, "undo 0")
        self.assert_told(InvalidCommand, {"command": "redo ", "at": 5}, desk.run, "redo ")
        self.assert_told(NothingToUndo, {"word": "redo"}, desk.run, "redo")

    def test_all_short_commands(self):
        words = ["0", "1", "3", "4", "0,1", "1,0", "0,3", "00", "", "x"]
        for word in KINDS:
            for first in words:
                for second in words:
                    for command in (word, f"{word} {first}", f"{word} {first} {second}", f"{word} {first} {second} 2",
                                    f"{word} 1 {first} {second}"):
                        desk, model = Desk(SQUARE), Model(SQUARE)
                        self.assertEqual(outcome(desk.run, command), model.run(command), command)
                        self.assertEqual((desk.graph, desk.start, desk.commands),
                                         (model.graph, model.start, model.commands))


class LongRuns(Case):

    def assert_runs(self, first, seed, many):
        picked = random.Random(seed)
        desk, model, run = Desk(first), Model(first), []
        for _ in range(many):
            command = some_command(picked, desk.graph)
            run.append(command)
            self.assertEqual(outcome(desk.run, command), model.run(command), run)
            self.assert_same((desk.graph, desk.start, desk.commands), (model.graph, model.start, model.commands))
            self.assertTrue(is_median_in(table_of(desk.graph)))
            self.assertIs(type(desk.start), int)
        again = replayed_desk(first, desk.commands)
        self.assert_same((again.graph, again.start, again.commands), (desk.graph, desk.start, desk.commands))
        self.assertEqual(every_answer(again), every_answer(desk))
        # Also every deed and undo is answered alike.
        for command in ["undo", "start 0", "expand 0", "undo", "undo", "undo", "undo", "size", "center"]:
            self.assertEqual(outcome(again.run, command), outcome(desk.run, command))
            self.assertEqual(every_answer(again), every_answer(desk))
        self.assert_same((again.graph, again.start, again.commands), (desk.graph, desk.start, desk.commands))
        return run

    def test_long_runs(self):
        seen = set()
        for seed, graph in enumerate(median_graphs() + [Graph(1, []), Graph.path(2), SQUARE] * 4):
            seen |= {command.split(" ")[0] for command in self.assert_runs(graph, seed, 60)}
        self.assertLessEqual(set(KINDS), seen)

    def test_runs_from_larger_graphs(self):
        for seed, graph in enumerate(list(grown_graphs())[5:] + [Graph.cube(5), Graph.path(6) * Graph.path(6)]):
            self.assert_runs(graph, 100 + seed, 12)

    def test_every_deed_on_every_edge(self):
        for graph in [graph for graph in tiny_graphs(4) if is_median_in(table_of(graph))] + [Graph.path(3) * Graph.path(2), Graph.cube(3)]:
            for start in graph:
                for word in ("peel", "keep", "contract"):
                    for a, b in graph.edges:
                        for command in (f"{word} {a} {b}", f"{word} {b} {a}"):
                            desk, model = replayed_desk(graph, [f"start {start}"]), Model(graph)
                            model.run(f"start {start}")
                            self.assertEqual(outcome(desk.run, command), model.run(command))
                            self.assert_same((desk.graph, desk.start), (model.graph, model.start))

    def test_growing_by_commands(self):
        subsets = [(0,), (0, 1), (0, 2), (1,), (1, 3)]
        desk = replayed_desk(Graph(1, []), ["expand " + ",".join(map(str, subset)) for subset in subsets])
        self.assert_same(desk.graph, Growth(subsets).graph)

    def test_peeling_down_to_one_vertex(self):
        for graph in many_median_graphs():
            desk = Desk(graph)
            while desk.graph.size > 1:
                edges = [f"peel {a} {b}" for pair in desk.graph.edges for a, b in (pair, pair[::-1])]
                told = next(command for command in edges if outcome(desk.run, command)[0] == "returned")
                self.assertEqual(desk.commands[-1], told)
            self.assert_same((desk.graph, desk.start), (Graph(1, []), 0))


class Replayed(Case):

    def test_lists_and_tuples_by_position_and_by_name(self):
        commands = ["expand 0", "size", "start 1", "expand 0,1", "undo", "redo", "word 3"]
        before = copy.copy(commands)
        for sequence in (commands, tuple(commands)):
            for desk in (replayed_desk(Graph(1, []), sequence), replayed_desk(commands=sequence, graph=Graph(1, []))):
                self.assertIsInstance(desk, Desk)
                self.assert_same((desk.graph, desk.start, desk.commands),
                                 (SQUARE, 1, ("expand 0", "start 1", "expand 0,1")))
        self.assertEqual(commands, before)
        self.assert_same(replayed_desk(SQUARE, []).commands, ())
        self.assert_same(replayed_desk(SQUARE, ()).graph, SQUARE)

    def test_undone_deeds_can_be_done_again(self):
        desk = replayed_desk(SQUARE, ["start 1", "start 2", "undo", "undo"])
        self.assert_same(desk.run("redo"), "4 4 2")
        self.assert_same((desk.start, desk.commands), (1, ("start 1",)))

    def test_later_changes_have_no_effect(self):
        commands = ["start 1"]
        desk = replayed_desk(SQUARE, commands)
        commands[0] = "start 2"
        commands.append("start 3")
        self.assert_same((desk.start, desk.commands), (1, ("start 1",)))

    def test_the_first_error(self):
        for commands, error_class, attributes in (
            (["start 9", "x"], InvalidNumber, {"value": 9}), (["size", "x", "start 9"], UnknownCommand, {"word": "x"}),
            (["undo"], NothingToUndo, {"word": "undo"}), (["start 1", "undo", "redo", "redo"], NothingToUndo,
                                                          {"word": "redo"}),
            (["expand 0,1", "peel 0 5", "peel"], InvalidEdge, {"value": (0, 5)}),
            (["start 1", "size "], InvalidCommand, {"command": "size ", "at": 5}),
            (["expand 0,3"], InvalidSubset, {"value": (0, 3)}), (["", "undo"], UnknownCommand, {"word": ""}),
        ):
            before = copy.copy(commands)
            self.assert_told(error_class, attributes, replayed_desk, SQUARE, commands)
            self.assert_told(error_class, attributes, replayed_desk, graph=SQUARE, commands=tuple(commands))
            self.assertEqual(commands, before)
        self.assert_told(Undefined, {"what": "median"}, replayed_desk, Graph.cycle(5), ["x"])

    def test_two_desks_side_by_side(self):
        one, other = Desk(SQUARE), Desk(SQUARE)
        one.run("expand 0,1")
        self.assert_same((other.graph, other.start, other.commands), (SQUARE, 0, ()))
        other.run("start 3")
        self.assert_same(one.run("word 3"), "110")
        self.assert_same(other.run("word 3"), "00")
        self.assert_same(one.run("undo"), "4 4 2")
        self.assert_same(other.commands, ("start 3",))
        self.assert_told(NothingToUndo, {"word": "undo"}, one.run, "undo")
        self.assert_same(other.run("undo"), "4 4 2")
        self.assert_same([desk.run("word 3") for desk in (one, other, one)], ["11"] * 3)

    def test_the_graph_that_was_given_stays(self):
        graph = renamed_by(joined(6, [(0, 1), (0, 2), (1, 3), (2, 3), (3, 4), (4, 5)]), (2, 0, 1, 5, 3, 4))
        before = (graph.size, graph.edges)
        desk = Desk(graph)
        for command in ("contract 0 2", "undo", "peel 4 3", "expand 0", "start 2"):
            desk.run(command)
        self.assert_same((graph.size, graph.edges), before)


if __name__ == "__main__":
    unittest.main()
