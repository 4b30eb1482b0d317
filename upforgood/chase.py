"""Copies of a run that those beyond a watched line cannot tell apart: point 132."""

from math import comb, lcm


class Copy:
    """One of several copies of a run, with what is fixed in it.

    The line is watched from near, whose side tells a number, to far. The reach tells what
    can be told if the rest of the line's row has to follow, and the answers are
    handed to those ends of them that are asked.
    """

    def __init__(self, world, near, far, reach, answers):
        self.world = world
        self.near = near
        self.far = far
        self.reach = reach
        self.answers = answers

    def has_failed(self):
        return self.world.fault() is not None

    def forward(self):
        return self._on_the_line(self.near, self.far)

    def come_forward(self, kind):
        self.world.give(self.near, self.far, kind)

    def advance(self):
        """Until something is under way forward, or nothing at all."""
        self._settle()
        while not self.has_failed() and self.forward() == [] and self._back() != []:
            self.world.give(self.far, self.near, self._back()[0])
            self._settle()

    def finish(self):
        """Alone, forward first, until the run fails or rests."""
        self.advance()
        while not self.has_failed() and self.forward() != []:
            self.come_forward(self.forward()[0])
            self.advance()

    def greatest(self):
        """The greatest number that the line can tell now if the rest has to follow."""
        own, other = self._kinds_left()
        return self.reach.greatest(own, other)

    def further(self):
        """What further rounds can tell; 0 if none let the rest follow, which means that this copy is lost."""
        own, other = self._kinds_left()
        return self.reach.further(own, other)

    def part_behind(self):
        """One divided by this copy's share, behind one more coming of a kind that is under way."""
        return comb(self._many_down() - 1, len(self.forward()) - 1) * self.further()

    def _kinds_left(self):
        """How many kinds the near side has not sent, and how many of the other side have not come to it."""
        line = self._line()
        side = self._side()
        return (len(line.unsent(side)), line.kinds(1 - side) - len(line.come_to(side)))

    def _many_down(self):
        """How many kinds have not come beyond the line, or how many wires are down there."""
        line = self._line()
        side = self._side()
        if line.spec[0] == "wires":
            return len(line.unsent(1 - side))
        return line.kinds(side) - len(line.come_to(1 - side))

    def _settle(self):
        """All else comes, and answers are handed, as long as there is any."""
        entry = self._aside()
        while entry is not None:
            if entry[0] == "answer":
                self.world.answer(entry[1], entry[2])
            else:
                self.world.give(entry[1], entry[2], entry[3])
            entry = self._aside()

    def _aside(self):
        if self.has_failed():
            return None
        pair = (min(self.near, self.far), max(self.near, self.far))
        for u, w, kind in self.world.under_way():
            if (min(u, w), max(u, w)) != pair:
                return ("give", u, w, kind)
        for end in self.world.asked():
            if end in self.answers:
                return ("answer", end, self.answers[end])
        return None

    def _back(self):
        return self._on_the_line(self.far, self.near)

    def _on_the_line(self, u, w):
        return self._line().under_way(0 if w < u else 1)

    def _line(self):
        return self.world.line(self.near, self.far)

    def _side(self):
        return 0 if self.near < self.far else 1


def chased(copies):
    """The world of a copy that has failed, or that was lost and rests now."""
    left = copies
    while True:
        for copy in left:
            copy.advance()
            if copy.has_failed():
                return copy.world
        for copy in left:
            if copy.further() == 0:
                copy.finish()
                return copy.world
        kind = _next_kind([copy for copy in left if copy.forward() != []])
        left = [copy for copy in left if kind in copy.forward()]
        for copy in left:
            copy.come_forward(kind)


def _next_kind(copies):
    """The kind behind whose coming the shares are greatest together; then two copies at least stay."""
    parts = [copy.part_behind() for copy in copies]
    scale = 1
    for part in parts:
        scale = lcm(scale, part)
    shares = {}
    for copy, part in zip(copies, parts):
        for kind in copy.forward():
            shares[kind] = shares.get(kind, 0) + scale // part
    most = max(list(shares.values()))
    return [kind for kind in sorted(shares) if shares[kind] == most][0]
