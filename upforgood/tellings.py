"""Values that are told by rounds as even as can be: what exchanges and stars share.

Rounds are told apart by their order alone: a further one is sent only when the one
ahead of it is known to have come whole. What is never sent is one more part, so
that rounds and this rest are the parts of all kinds of an end.
"""

from upforgood.numbers import arrangements, even_parts
from upforgood.ranks import ON_LETTERS, behind, rank_at, rounds_at


def greatest_by(kinds, parts):
    """The greatest number of arrangements of so many kinds in so many parts, which may be empty."""
    return arrangements(even_parts(kinds, parts))


def sizes_by(kinds, parts):
    """The sizes of the rounds that tell so many values; the last part is the rest."""
    sizes = [size for size in even_parts(kinds, parts) if size > 0]
    # The one value of a single kind has to come, too.
    return sizes if len(sizes) == 1 else sizes[:-1]


class Telling:
    """A value told by rounds of these sizes, and then bare signals, each of one more kind."""

    def __init__(self, kinds, sizes, signals):
        self.kinds = list(range(1, kinds + 1))
        self.sizes = sizes
        self.signals = signals

    def rounds(self, value):
        """All that is sent one behind the other, as tuples of kinds."""
        told = list(rounds_at(value, self.kinds, self.sizes, ON_LETTERS))
        rest = self.kinds
        for chosen in told:
            rest = behind(rest, chosen, 0)
        return told + [(kind,) for kind in rest[:self.signals]]

    def many(self):
        """How many rounds there are, with the signals."""
        return len(self.sizes) + self.signals

    def many_whole(self, came):
        """How many rounds are whole, when so many kinds have come."""
        return len([at for at in range(1, self.many() + 1) if self.kinds_in(at) <= came])

    def kinds_in(self, rounds):
        """How many kinds there are in so many first rounds."""
        sizes = self.sizes + [1] * self.signals
        return sum(sizes[:rounds])

    def value(self, came):
        """The value that is told by kinds which came in this order."""
        rounds = []
        at = 0
        for size in self.sizes:
            rounds.append(tuple(sorted(came[at:at + size])))
            at += size
        return rank_at(rounds, self.kinds, ON_LETTERS)
