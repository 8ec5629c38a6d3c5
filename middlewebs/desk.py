"""A desk: a median graph with a start vertex that commands change and ask about."""

from middlewebs.commands import first_word, vertices_in
from middlewebs.deeds import DEEDS
from middlewebs.errors import NothingToUndo
from middlewebs.medians import check_median_graph
from middlewebs.questions import QUESTIONS, size_answer


class Desk:
    """A median graph, a start vertex and the deeds in force, which can be undone and done again."""

    def __init__(self, graph):
        check_median_graph(graph)
        self.graph = graph
        self.start = 0
        self.commands = ()
        # Ahead of each deed in force the graph and the start; of each deed undone its command and what came of it.
        self._before = []
        self._undone = []

    def run(self, command):
        """Do one command and return its answer."""
        word = first_word(command)
        values = vertices_in(self.graph, command)
        if word in QUESTIONS:
            question = QUESTIONS[word]
            return question(self, *values)
        if word == "undo":
            self._undo()
        elif word == "redo":
            self._redo()
        else:
            deed = DEEDS[word]
            graph, start = deed(self, *values)
            self._undone = []
            self._take(command, graph, start)
        return size_answer(self)

    def _take(self, command, graph, start):
        """Put a deed in force: this is what comes of it."""
        self._before.append((self.graph, self.start))
        self.graph = graph
        self.start = start
        self.commands = self.commands + (command,)

    def _undo(self):
        """Take the last deed in force back."""
        if len(self.commands) == 0:
            raise NothingToUndo("undo")
        self._undone.append((self.commands[-1], self.graph, self.start))
        self.graph, self.start = self._before.pop()
        self.commands = self.commands[:-1]

    def _redo(self):
        """Put the deed that was undone last in force again."""
        if len(self._undone) == 0:
            raise NothingToUndo("redo")
        command, graph, start = self._undone.pop()
        self._take(command, graph, start)


def replayed_desk(graph, commands):
    """A desk with this graph on which these commands were run."""
    desk = Desk(graph)
    for command in commands:
        desk.run(command)
    return desk
