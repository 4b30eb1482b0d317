"""All lines of a tree, and what is sent and comes over them."""

from upforgood.checks import is_between, is_integer
from upforgood.errors import NotSent
from upforgood.lines import Line
from upforgood.trees import check_neighbours


class Net:
    """The lines of a tree, on which nothing has been sent at first."""

    def __init__(self, tree):
        self.tree = tree
        self.pairs = [(u, w) for u, w, _ in tree.lines]
        self.lines = [Line(spec) for _, _, spec in tree.lines]

    def send(self, u, w, kind):
        """Send a kind from u, unless u has no such line or may not send it there."""
        if w not in self.tree.neighbours(u):
            return
        line = self._between(u, w)
        if is_between(kind, 1, line.kinds(_side(u, w))):
            line.send(_side(u, w), kind)

    def give(self, u, w, kind):
        """Make what u has sent come to w, and tell whether it is new there."""
        check_neighbours(self.tree, u, w)
        line = self._between(u, w)
        if not is_integer(kind) or kind not in line.sent(_side(u, w)):
            raise NotSent(kind)
        return line.come(_side(w, u), kind)

    def under_way(self):
        found = []
        for (u, w), line in zip(self.pairs, self.lines):
            found.extend([(u, w, kind) for kind in line.under_way(1)])
            found.extend([(w, u, kind) for kind in line.under_way(0)])
        return sorted(found)

    def line(self, u, w):
        """A copy of the line between two neighbours."""
        check_neighbours(self.tree, u, w)
        return self._between(u, w).copy()

    def copy(self):
        net = Net(self.tree)
        net.lines = [line.copy() for line in self.lines]
        return net

    def state(self):
        """What has been sent and has come, as a tuple."""
        return tuple([(tuple(line.sent(side)), tuple(line.come_to(side))) for line in self.lines for side in (0, 1)])

    def _between(self, u, w):
        return self.lines[self.pairs.index((min(u, w), max(u, w)))]


def _side(end, near):
    """The lesser end of a line is its side 0."""
    return 0 if end < near else 1
