"""The greatest numbers that a line can tell if a row has to follow."""

from upforgood.numbers import most_arranged
from upforgood.rows import stairs
from upforgood.wires import leasts, most_told


class LetterReach:
    """Over letters. The end that hears the number is the first speaker of the row."""

    def __init__(self, row, most):
        self.least = stairs(row, most)[0]

    def follows(self, own, other):
        """Whether the row can follow where the speaker and the hearer have so many kinds left."""
        least = self.least[other]
        return least is not None and least <= own

    def greatest(self, own, other):
        """The greatest number that can be told first, 0 if there is none."""
        best = 0
        for left in range(own):
            for answers in range(other + 1):
                if self.follows(left, other - answers):
                    best = max(best, most_arranged(own, answers + 1, left))
        return best

    def further(self, own, other):
        """The greatest number that further rounds tell, each of them behind an answer."""
        if not self.follows(own, other):
            return 0
        return max(1, self.greatest(own, other - 1))


class WireReach:
    """The same over wires; those that are down count for both ends."""

    def __init__(self, row, most):
        self.need = leasts(row)[0]
        self.told = most_told(most)

    def greatest(self, wires, _):
        if self.need is None:
            return 0
        return max([number for number, _ in self.told[wires][self.need:]], default=0)

    def further(self, wires, other):
        """An answer takes a wire ahead of each further round."""
        if self.need is None or self.need > wires:
            return 0
        return max(1, self.greatest(wires - 1, other)) if wires > 0 else 1
