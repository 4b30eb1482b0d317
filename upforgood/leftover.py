"""What can be left of a line behind numbers that are told over it by turns."""

from upforgood.rows import choices, told_by_kinds
from upforgood.wires import most_rest, most_told


class LettersLeft:
    """Letters: all ways in which the kinds of both sides can be left, of which none is better than another one."""

    def __init__(self, told, ways):
        self.told = told
        self.ways = ways

    def behind(self, side, number):
        """What can be left when this side has told a number, or None if it cannot."""
        most = {}
        for way in self.ways:
            answering = way[1 - side]
            for rest, answers in choices(number, self.told[way[side]], answering):
                most[rest] = max(most.get(rest, 0), answering - answers)
        ways = []
        best = -1
        for rest in sorted(most, reverse=True):
            if most[rest] > best:
                best = most[rest]
                ways.append((rest, best) if side == 0 else (best, rest))
        return None if ways == [] else LettersLeft(self.told, ways)


class WiresLeft:
    """Wires: the most that can be left, as more of them never tell less."""

    def __init__(self, told, wires):
        self.told = told
        self.wires = wires

    def behind(self, _, number):
        rest = most_rest(number, self.told[self.wires])
        return None if rest is None else WiresLeft(self.told, rest)


def letters_left(own, other):
    """Letters of which nothing has been sent; side 0 has its own kinds."""
    return LettersLeft(told_by_kinds(max(own, other)), [(own, other)])


def wires_left(wires):
    return WiresLeft(most_told(wires), wires)


def all_left(spec):
    """A line of this spec on which nothing has been sent."""
    if spec[0] == "wires":
        return wires_left(spec[1])
    return letters_left(spec[1], spec[2])


def left_behind_each(left, row):
    """For each number of a row what is left ahead of it, and at last what is left behind all; None if nothing is.

    Side 0 speaks first, and the sides take turns.
    """
    found = [left]
    for at, number in enumerate(row):
        ahead = found[at]
        found.append(None if ahead is None else ahead.behind(at % 2, number))
    return found
