"""Points [33] and [34]: texts of graphs, words, clauses, events and growths."""

import random
import re
import unittest
from itertools import combinations

from helper import (
    DEEP, Case, all_graphs, all_words, clause_sets, clauses_of, event_sets, expanded_by_hand, grown_graphs,
    is_convex_in, many_median_graphs, other_graphs, outcome, single_letters, steps_of, table_of, word_sets,
)
from middlewebs.clauses import Clauses
from middlewebs.desk import Desk
from middlewebs.errors import InvalidForm, InvalidText
from middlewebs.events import Events
from middlewebs.folds import Folding
from middlewebs.graphs import Graph
from middlewebs.growth import Growth, growth_of
from middlewebs.texts import read, write
from middlewebs.words import Words

NUMBER = "(0|[1-9][0-9]*)"
LIMITS = {"graph": (1, 40), "words": (0, 39), "clauses": (0, 39), "events": (0, 39)}


def some_objects():
    """Objects of the five forms that have a text."""
    found = all_graphs() + [Words(*pair) for pair in word_sets()] + [Clauses(*pair) for pair in clause_sets()]
    found += [Events(*triple) for triple in event_sets()] + [growth_of(graph)[0] for graph in many_median_graphs()]
    return found + [
        Words(0, [()]), Words(39, steps_of(39)), Words(39, [(0,) * 39] + single_letters(39)), Clauses(0, []),
        Clauses(39, []),
        Clauses(39, clauses_of(39)[:1400]), Clauses(39, clauses_of(39)[-300:]), Events(0, [], []), Events(39, [], []),
        Events(39, list(combinations(range(39), 2)), list(combinations(range(39), 2))), Growth([]), Growth([(0,)] * 39),
        Events(39, sorted((b, a) for a, b in combinations(range(39), 2)), []),
        Growth([tuple(range(2 ** k)) for k in range(5)]),
    ]


def text_by_hand(value):
    """The text, put together sign by sign."""
    text = ""
    if isinstance(value, Graph):
        text = "graph " + str(value.size)
        for a, b in value.edges:
            text += "\n" + str(a) + "-" + str(b)
    if isinstance(value, Words):
        text = "words " + str(value.length)
        for word in value.words:
            text += "\n" + ("." if word == () else "")
            for letter in word:
                text += str(letter)
    if isinstance(value, Clauses):
        text = "clauses " + str(value.letters)
        for clause in value.clauses:
            text += "\n" + " ".join("!" * (1 - bit) + str(place) for place, bit in clause)
    if isinstance(value, Events):
        text = "events " + str(value.many)
        for a, b in value.causes:
            text += "\n" + str(a) + ">" + str(b)
        for a, b in value.conflicts:
            text += "\n" + str(a) + "#" + str(b)
    if isinstance(value, Growth):
        text = "growth"
        for subset in value.subsets:
            text += "\n" + ",".join(str(member) for member in subset)
    return text


def is_led_back(causes):
    """Whether some event is led back to itself."""
    left = list(causes)
    while True:
        ends = {b for _, b in left}
        more = [(a, b) for a, b in left if a in ends]
        if more == left:
            return left != []
        left = more


class LineByLine:
    """Goes through a text line by line, as the point tells it."""

    def __init__(self, head):
        self.right = head == "growth"
        self.form, self.number, self.before, self.count = "growth", None, (), 0
        self.graph, self.causes, self.last_conflict = Graph(1, []), [], ()
        match = re.fullmatch("(graph|words|clauses|events) " + NUMBER, head, re.ASCII)
        if match:
            self.form, self.number = match.group(1), int(match.group(2)[:3])
            self.right = LIMITS[self.form][0] <= self.number <= LIMITS[self.form][1]

    def is_right(self, line):
        """Whether a further line is right behind those ahead of it."""
        return getattr(self, "is_" + self.form)(line)

    def numbers(self, pattern, line):
        match = re.fullmatch(pattern, line, re.ASCII)
        return match and tuple(int(text[:3]) for text in re.findall("[0-9]+", line))

    def comes_next(self, member):
        if self.count and member <= self.before:
            return False
        self.before, self.count = member, self.count + 1
        return True

    def is_graph(self, line):
        edge = self.numbers(f"{NUMBER}-{NUMBER}", line)
        return bool(edge) and edge[0] < edge[1] < self.number and self.comes_next(edge)

    def is_words(self, line):
        if self.count == 40:
            return False
        if self.number == 0:
            return line == "." and self.comes_next(())
        return re.fullmatch("[01]{%d}" % self.number, line) is not None and self.comes_next(line)

    def is_clauses(self, line):
        if not re.fullmatch(f"!?{NUMBER}( !?{NUMBER})?", line, re.ASCII):
            return False
        clause = tuple((int(text.strip("!")[:3]), 0 if "!" in text else 1) for text in line.split(" "))
        places = [place for place, _ in clause]
        return max(places) < self.number and sorted(set(places)) == places and self.comes_next(clause)

    def is_events(self, line):
        cause, pair = self.numbers(f"{NUMBER}>{NUMBER}", line), self.numbers(f"{NUMBER}#{NUMBER}", line)
        if cause:
            right = max(cause) < self.number and not self.last_conflict and not is_led_back(self.causes + [cause])
            right = right and cause > (self.causes[-1] if self.causes else ())
            self.causes.append(cause)
            return right
        if not pair or not pair[0] < pair[1] < self.number or pair <= self.last_conflict:
            return False
        self.last_conflict = pair
        return True

    def is_growth(self, line):
        subset = self.numbers(f"{NUMBER}(,{NUMBER})*", line)
        if not subset or list(subset) != sorted(set(subset)) or subset[-1] >= self.graph.size:
            return False
        if not is_convex_in(table_of(self.graph), subset) or self.graph.size + len(subset) > 40:
            return False
        self.graph = expanded_by_hand(self.graph, subset)
        return True

    def is_whole(self):
        """Whether lines that are all right are a text."""
        if self.form == "words":
            return self.count > 0
        return True


def refused_at(text):
    """The place at which a text is refused, or None."""
    head, *lines = text.split("\n")
    reader = LineByLine(head)
    if not reader.right:
        return 0
    at = len(head) + 1
    edges = []
    for line in lines:
        if not reader.is_right(line):
            return at
        at += len(line) + 1
        edges.append(reader.before)
    if reader.form == "graph":
        reached = {0}
        for _ in range(reader.number):
            reached |= {b for edge in edges for a, b in (edge, edge[::-1]) if a in reached}
        return None if len(reached) == reader.number else len(text)
    return None if reader.is_whole() else len(text)


def changed_texts(text, picked, many):
    """The text with some signs, lines or numbers changed."""
    signs = "0123456789-,>#! .\n\tab"
    for _ in range(many):
        kind, at = picked.randrange(7), picked.randrange(len(text) + 1)
        lines = text.split("\n")
        line = picked.randrange(len(lines))
        if kind == 0:
            yield text[:at] + picked.choice(signs) + text[at:]
        elif kind == 1:
            yield text[:at] + text[at + 1:]
        elif kind == 2:
            yield text[:at] + picked.choice(signs) + text[at + 1:]
        elif kind == 3:
            yield "\n".join(lines[:line] + lines[line + 1:])
        elif kind == 4:
            yield "\n".join(lines[:line] + [lines[line]] + lines[line:])
        elif kind == 5:
            other = picked.randrange(len(lines))
            lines[line], lines[other] = lines[other], lines[line]
            yield "\n".join(lines)
        else:
            yield re.sub("[0-9]+", lambda match: str(picked.randint(0, 42)) if picked.random() < 0.1 else match.group(),
                         text)


class Write(Case):

    def test_examples(self):
        self.assert_same(write(Graph(1, [])), "graph 1")
        self.assert_same(write(Graph.path(3)), "graph 3\n0-1\n1-2")
        self.assert_same(write(Words(2, [(0, 0), (0, 1)])), "words 2\n00\n01")
        self.assert_same(write(Words(0, [()])), "words 0\n.")
        self.assert_same(write(value=Clauses(11, [((0, 0), (10, 1)), ((0, 1),), ((3, 0),)])),
                         "clauses 11\n!0 10\n0\n!3")
        self.assert_same(write(Clauses(0, [])), "clauses 0")
        self.assert_same(write(Events(3, [(0, 2), (1, 0)], [(0, 1), (1, 2)])), "events 3\n0>2\n1>0\n0#1\n1#2")
        self.assert_same(write(Events(0, [], [])), "events 0")
        self.assert_same(write(Growth([(0,), (0, 1)])), "growth\n0\n0,1")
        self.assert_same(write(Growth([])), "growth")

    def test_by_hand(self):
        for value in some_objects():
            self.assert_same(write(value), text_by_hand(value))

    def test_foldings_and_any_other_value(self):
        for value in (
            Folding(0, ((),)), Folding(2, tuple(all_words(2))), None, True, False, 0, 1, -1, 10 ** 30, "", "graph 1",
            "growth", (), [], DEEP,
            (0, 1), [Graph(1, [])], (Graph(1, []),), Desk(Graph(1, [])), ((0,), (0, 1)), (4, ((0, 1),)), ("graph", 1),
        ):
            self.assert_refused(InvalidForm, write, value)
            self.assert_refused(InvalidForm, write, value=value)

    def test_the_same_question_again(self):
        first, between = write(Graph.path(3)), write(Graph.cycle(3))
        self.assertNotEqual(first, between)
        self.assert_same(write(Graph.path(3)), first)


class Read(Case):

    def test_read_back(self):
        for value in some_objects():
            text = text_by_hand(value)
            found = read(text)
            self.assertIs(type(found), type(value))
            self.assertEqual(found, value)
            self.assertEqual(write(found), text)
            self.assertEqual(read(text=text), value)

    def test_kinds_of_what_is_read(self):
        self.assert_same(read("graph 3\n0-1\n0-2").edges, ((0, 1), (0, 2)))
        self.assert_same(read("words 2\n00\n01").words, ((0, 0), (0, 1)))
        self.assert_same(read("words 0\n.").words, ((),))
        self.assert_same(read("clauses 2\n!0 1\n0").clauses, (((0, 0), (1, 1)), ((0, 1),)))
        self.assert_same(read("events 3\n0>2\n1>0\n0#1").causes, ((0, 2), (1, 0)))
        self.assert_same(read("events 3\n0>2\n1>0\n0#1").conflicts, ((0, 1),))
        self.assert_same(read("growth\n0\n0,1").subsets, ((0,), (0, 1)))
        self.assert_same(read("clauses 5").letters, 5)

    def assert_told_at(self, text, at):
        self.assertEqual(refused_at(text), at, repr(text))
        self.assert_told(InvalidText, {"text": text, "at": at}, read, text)
        self.assert_told(InvalidText, {"text": text, "at": at}, read, text=text)

    def test_the_examples_of_the_document(self):
        self.assert_told_at("graph 3", 7)
        self.assert_told_at("graph 03", 0)
        self.assert_told_at("graph 2\n0-1\n", 12)
        self.assert_told_at("growth\n0\n0,2", 9)

    def test_first_lines(self):
        for text in (
            "", "\n", " ", "graph", "graph ", "graph  3", " graph 3", "graph 3 ", "graph 3 3", "Graph 3", "graph 0",
            "graph 41", "graph 100",
            "graph -1", "graph +3", "graph 3.", "graph x", "graph\t3", "graph 03", "graph 00", "graph 1e1", "graph 3\r",
            "words", "words -1",
            "words 40", "words 00", "words 02\n00", "words two", "clauses", "clauses 40", "clauses 01", "clauses !1",
            "events", "events 40",
            "events 1,", "events 1>0", "growth 0", "growth ", " growth", "growths", "Growth\n0", "growth\t",
            "folding 0\n.", "folding", "fold 1",
            "0-1", "graph 3\r\n0-1", "graph \u0663", "graph \u00b2", "graph " + "9" * 5000, "words " + "0" * 5000, "3",
            "graph3", "graph\n3",
            "graph 1_0", "words 1\u00a0", "GRAPH 3", "desk", "text", "\ngraph 1", "graph 3-0", "clauses 3;",
        ):
            self.assert_told_at(text, 0)

    def test_the_least_and_the_greatest_numbers(self):
        self.assertEqual(read("graph 1"), Graph(1, []))
        self.assertEqual(read(write(Graph.path(40))), Graph.path(40))
        self.assertEqual(read("words 39\n" + "0" * 39), Words(39, [(0,) * 39]))
        self.assertEqual(read("clauses 39"), Clauses(39, []))
        self.assertEqual(read("events 39"), Events(39, [], []))
        self.assertEqual(read("growth"), Growth([]))

    def test_lines_of_graphs(self):
        for line in ("", "0-3", "1-0", "0-0", "0-01", "00-1", "0", "0-", "-1", "0-1-2", "0,1", "0>1", "0 -1", "0- 1",
                     " 0-1", "0-1 ", "a-1", "0-\u0661",
                     "0-10", "0-100", "0-" + "1" * 5000, "0--1", "0-+1", ".", "!0", "-", "0-1\r", "0-1\t", "1-1", "2-1",
                     "0-1.0"):
            self.assert_told_at("graph 3\n" + line, 8)
            self.assert_told_at("graph 3\n0-1\n" + line, 12)
            self.assert_told_at("graph 3\n0-1\n1-2\n" + line + "\n", 16)
        self.assert_told_at("graph 3\n0-2\n0-1", 12)
        self.assert_told_at("graph 3\n0-1\n0-1", 12)
        self.assert_told_at("graph 4\n0-1\n2-3", 15)
        self.assert_told_at("graph 40", 8)
        self.assert_told_at("graph 2\n", 8)
        self.assert_told_at("graph 1\n0-0", 8)

    def test_lines_of_words(self):
        self.assert_told_at("words 0", 7)
        self.assert_told_at("words 3", 7)
        self.assert_told_at("words 0\n", 8)
        self.assert_told_at("words 0\n.\n.", 10)
        self.assert_told_at("words 0\n.\n", 10)
        self.assert_told_at("words 0\n0", 8)
        self.assert_told_at("words 1\n.", 8)
        for line in ("", "0", "000", "02", "0 0", "00 ", " 00", "..", ".", "0.", "0,0", "ab", "0\u0660", "\u0660\u0660",
                     "00\r", "-0", "!0", "0" * 9000):
            self.assert_told_at("words 2\n" + line, 8)
            self.assert_told_at("words 2\n01\n" + line, 11)
        self.assert_told_at("words 2\n01\n00", 11)
        self.assert_told_at("words 2\n01\n01", 11)
        forty = ["".join(map(str, word)) for word in all_words(6)]
        self.assertEqual(len(read("words 6\n" + "\n".join(forty[:40]))), 40)
        self.assert_told_at("words 6\n" + "\n".join(forty[:41]), 8 + 40 * 7)
        self.assert_told_at("words 6\n" + "\n".join(forty), 8 + 40 * 7)
        self.assert_told_at("words 6\n" + "\n".join(forty[:40]) + "\n", 8 + 40 * 7)
        self.assert_told_at("words 6\n" + "\n".join(forty[:39] + ["x"] + forty[40:]), 8 + 39 * 7)

    def test_lines_of_clauses(self):
        for line in ("", "3", "!3", "00", "!00", "!!0", "0!", "! 0", "0 0", "0 !0", "1 0", "!1 !0", "0 1 2", "0  1",
                     " 0", "0 ", "0 1 ", "0,1", "-0", "+0",
                     "!", "!-1", "x", "0 x", "\u0660", "100", "1" * 9000, "0\t1", "~0", ".", "0 3", "2 !1"):
            self.assert_told_at("clauses 3\n" + line, 10)
            self.assert_told_at("clauses 3\n!0 1\n" + line, 15)
        self.assert_told_at("clauses 3\n0\n!0", 12)
        self.assert_told_at("clauses 3\n0\n0", 12)
        self.assert_told_at("clauses 3\n!0 1\n!0", 15)
        self.assert_told_at("clauses 0\n0", 10)
        self.assert_told_at("clauses 3\n", 10)
        self.assertEqual(read("clauses 3\n!0\n!0 1\n0 !2"), Clauses(3, [((0, 0),), ((0, 0), (1, 1)), ((0, 1), (2, 0))]))

    def test_lines_of_events(self):
        for line in ("", "0>3", "3>0", "0>0", "0>", ">1", "0>1>2", "0>01", "00>1", "0 >1", "0> 1", "0-1", "0,1", "0",
                     "x>1", "0>x", "0>\u0661", "0>>1",
                     "0#3", "1#0", "0#0", "0#", "#1", "0#1#2", "0#01", "0#1 ", "!0#1", "0>1#2", "0#1>2", "9" * 9000,
                     "0>" + "1" * 8000, "40#41"):
            self.assert_told_at("events 3\n" + line, 9)
            self.assert_told_at("events 3\n0>1\n" + line, 13)
            self.assert_told_at("events 3\n0>1\n0#1\n" + line, 17)
        self.assert_told_at("events 3\n0>2\n0>1", 13)
        self.assert_told_at("events 3\n0>2\n0>2", 13)
        self.assert_told_at("events 3\n0#2\n0#1", 13)
        self.assert_told_at("events 3\n0#2\n0#2", 13)
        self.assert_told_at("events 3\n0#2\n1>2", 13)
        self.assert_told_at("events 3\n0>1\n0#2\n1>2\n1#2", 17)
        self.assert_told_at("events 0\n0#1", 9)
        self.assert_told_at("events 3\n", 9)

    def test_causes_that_lead_back(self):
        self.assert_told_at("events 3\n0>1\n1>0", 13)
        self.assert_told_at("events 3\n0>1\n1>2\n2>0", 17)
        self.assert_told_at("events 3\n0>1\n1>0\n2>0", 13)
        self.assert_told_at("events 3\n0>1\n1>0\n0>2", 13)
        self.assert_told_at("events 3\n0>1\n1>0\n0#9", 13)
        self.assert_told_at("events 3\n0>1\n1>0\n", 13)
        # A wrong line ahead of it is told, and of those behind it none.
        self.assert_told_at("events 3\n0>1\n0>3\n1>0", 13)
        self.assert_told_at("events 3\n0>1\nx\n1>0", 13)
        self.assert_told_at("events 3\n0#1\n0>1\n1>0", 13)
        self.assert_told_at("events 5\n0>3\n1>4\n2>0\n3>1\n4>2\n4>3", 25)
        self.assert_told_at("events 50\n0>1\n1>0", 0)
        for line in ("99>98", "98>99", "99>99", "100>99", "39>38", "38>39"):
            self.assert_told_at("events 39\n0>1\n" + line, 14)
            self.assert_told_at("events 39\n0>1\n" + line + "\n1>0", 14)
        self.assert_told_at("events 39\n" + "\n".join(f"{a}>{b}" for a,
                                                      b in [*combinations(range(39), 2)][:-1] + [(38, 0)]),
                            len("events 39\n" + "\n".join(f"{a}>{b}" for a,
                                                          b in [*combinations(range(39), 2)][:-1])) + 1)

    def test_lines_of_growths(self):
        for line in ("", "1", "00", "0,0", "0,1", "-1", "0,", ",0", ",", "0 ", " 0", "x", "0;0", "\u0660", "100",
                     "9" * 9000, "0-1", "(0)", "0.", "+0", "01"):
            self.assert_told_at("growth\n" + line, 7)
            if line not in ("1", "0,1"):
                self.assert_told_at("growth\n0\n" + line, 9)
        self.assert_told_at("growth\n0\n0,1\n0,3", 13)
        self.assert_told_at("growth\n0\n0,1\n0,1,2", 13)
        self.assert_told_at("growth\n0\n1,0", 9)
        self.assert_told_at("growth\n", 7)
        self.assert_told_at("growth\n0\n", 9)
        self.assertEqual(read("growth\n" + "\n".join(["0"] * 39)), Growth([(0,)] * 39))
        self.assert_told_at("growth\n" + "\n".join(["0"] * 40), 7 + 78)
        self.assert_told_at("growth\n" + "\n".join(["0"] * 4000), 7 + 78)
        doubled = "growth\n0\n0,1\n0,1,2,3\n0,1,2,3,4,5,6,7\n" + ",".join(map(str, range(16)))
        self.assertEqual(read(doubled + "\n0,1,2,3,4,5,6,7"),
                         Growth([tuple(range(2 ** k)) for k in range(5)] + [tuple(range(8))]))
        self.assert_told_at(doubled + "\n" + ",".join(map(str, range(16))), len(doubled) + 1)
        # Order is not asked of the subsets.
        self.assertEqual(read("growth\n0\n1\n0\n0"), Growth([(0,), (1,), (0,), (0,)]))

    def test_what_is_no_string(self):
        for value in (
            None, True, False, 0, 1, -1, 10 ** 30, (), [], ("graph 1",), ["graph 1"], ["graph", 1], DEEP, Graph(1, []),
            Words(0, [()]),
            Growth([]), Folding(0, ((),)), Desk(Graph(1, [])),
        ):
            self.assert_told(InvalidText, {"text": value, "at": 0}, read, value)
            self.assert_told(InvalidText, {"text": value, "at": 0}, read, text=value)

    def test_changed_texts(self):
        picked = random.Random(34)
        refused, kept = 0, 0
        for value in some_objects()[::3] + [Growth([(0,), (0, 1), (0, 1), (2, 3)]),
                                            Events(4, [(0, 1), (1, 2)], [(0, 3), (1, 3)])] * 40:
            text = write(value)
            for changed in changed_texts(text, picked, 6 if len(text) < 400 else 2):
                at = refused_at(changed)
                if at is None:
                    kept += 1
                    self.assertEqual(write(read(changed)), changed)
                else:
                    refused += 1
                    self.assertEqual(outcome(read, changed), ("InvalidText", changed, at))
        self.assertGreater(refused, 1000)
        self.assertGreater(kept, 50)

    def test_all_texts_of_few_signs(self):
        # Every text of three lines of these, behind every head: each is read, or refused where the point tells.
        lines = ["0", "1", "0,1", "0-1", "1-2", "0>1", "1>0", "0#1", "!0 1", "00", "01", ".", ""]
        for head in ("graph 3", "words 2", "words 1", "words 0", "clauses 2", "events 3", "growth", "graph 2",
                     "folding"):
            for first in lines:
                for second in lines:
                    for text in (head, f"{head}\n{first}", f"{head}\n{first}\n{second}"):
                        at = refused_at(text)
                        if at is None:
                            self.assertEqual(write(read(text)), text)
                        else:
                            self.assertEqual(outcome(read, text), ("InvalidText", text, at))

    def test_texts_of_10000_signs(self):
        for text in ("0" * 10000, "\n" * 10000, "graph 3\n" + "0-1\n" * 2498, "events 39\n" + "0>1\n1>0\n" * 1248,
                     "clauses 39\n" + "0 1\n" * 2497,
                     "growth\n" + "0\n" * 4996, "words 39\n" + "0" * 9991, "events 39\n" + "#" * 9990,
                     "growth\n" + "0," * 4996,
                     "clauses 5\n" + "!" * 9990, "events 30\n" + "".join(f"{k % 30}>{k % 29}\n" for k in range(1700))):
            self.assert_told_at(text, refused_at(text))

    def test_the_same_question_again(self):
        one, other = "graph 3\n0-1\n1-2", "graph 3\n0-1\n0-2"
        first, between = read(one), read(other)
        self.assertNotEqual(first, between)
        self.assertEqual(read(one), first)
        self.assertEqual(outcome(read, "graph 3"), outcome(read, "graph 3"))
        for graph in other_graphs() + list(grown_graphs()):
            self.assertEqual(read(write(graph)), graph)
            self.assertEqual(read(one), first)


if __name__ == "__main__":
    unittest.main()
