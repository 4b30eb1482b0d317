"""The part that one end of a tree has in a text."""

from upforgood.parts import hearers_in
from upforgood.texts import goes_on, rows_by_steps
from upforgood.trees import beyond

SPEAKER = 1


class Role:
    """What an end has to know: its lines, what is told over them, and who stands where."""

    def __init__(self, tree, text, paper, end):
        self.end = end
        self.text = text
        self.neighbours = tree.neighbours(end)
        self.specs = {near: tree.spec(end, near) for near in self.neighbours}
        self.ends_beyond = {near: beyond(tree, end, near) for near in self.neighbours}
        plans = {(u, w): rounds for (u, w, _), rounds in zip(tree.lines, paper)}
        self.numbers = {}
        for near in tree.neighbours(end):
            u, w = min(end, near), max(end, near)
            self.numbers[near] = _numbers(rows_by_steps(tree, text, u, w), plans[(u, w)])

    def source(self, at):
        """The neighbour from which the value of a step comes, or 0 if this end speaks."""
        return self._towards(self.text[at][SPEAKER])

    def forward(self, at):
        """The neighbour towards the end that goes on from a step, or 0."""
        return self._towards(goes_on(self.text[at]))

    def informed(self, at):
        """The hearers of whom this end gets to know what is told to them."""
        step = self.text[at]
        source = self.source(at)
        if source == 0:
            return list(step[2])
        return [hearer for hearer in step[2] if hearer not in self.ends_beyond[source]]

    def hearers(self, at, near):
        return hearers_in(self.text[at], self.ends_beyond[near])

    def branches(self, at):
        """The neighbours, but that of the source, beyond which someone hears."""
        source = self.source(at)
        return [near for near in self.neighbours if near != source and self.hearers(at, near) != []]

    def _towards(self, end):
        for near in self.neighbours:
            if end in self.ends_beyond[near]:
                return near
        return 0


def _numbers(rows, rounds):
    """For each number of a line's own row its step, its speaker, it, and the sizes of its rounds."""
    found = []
    for at, asked in enumerate(rows):
        for end, number in asked:
            found.append((at, end, number, rounds[len(found)]))
    return found
