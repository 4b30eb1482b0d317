"""How many messages lines can serve, whichever end speaks next: point 151."""

from upforgood.checks import is_between
from upforgood.errors import InvalidMost, InvalidOther, InvalidOwn, InvalidTimes, InvalidValue
from upforgood.numbers import even_parts
from upforgood.rows import choices, told_by_kinds
from upforgood.wires import can_raise

MOST_VALUES = 10 ** 12
MOST_TIMES = 8
MOST_KINDS = 16


def can_serve(value, times, first, second):
    check_value(value)
    check_times(times)
    if not is_between(first, 0, MOST_KINDS):
        raise InvalidOwn(first)
    if not is_between(second, 0, MOST_KINDS):
        raise InvalidOther(second)
    return Serving(value, times, max(first, second)).can(times, first, second)


def can_serve_raised(value, times, wires):
    check_value(value)
    check_times(times)
    return can_raise(raised_row(value, times), wires)


def most_served(tree, value, most):
    check_value(value)
    if not is_between(most, 0, MOST_TIMES):
        raise InvalidMost(most)
    times = most
    while not all([_can(spec, value, times) for _, _, spec in tree.lines]):
        times -= 1
    return times


class Serving:
    """What lines of letters can serve: by messages and by kinds of both ends."""

    def __init__(self, value, times, most):
        self.value = value
        self.told = told_by_kinds(most)
        self.table = [[[True] * (most + 1) for _ in range(most + 1)]]
        kinds = range(most + 1)
        for many in range(1, times + 1):
            self.table.append([[self._serves(many, own, other) for other in kinds] for own in kinds])

    def can(self, times, own, other):
        return self.table[times][own][other]

    def sizes(self, times, own, other):
        """The sizes by which an end with its own kinds tells the first of so many messages."""
        ways = self._ways(times, own, other)
        most = max([rest - answers for rest, answers in ways])
        rest, answers = [way for way in ways if way[0] - way[1] == most][0]
        return even_parts(own - rest, answers + 1)

    def _serves(self, times, own, other):
        return self._ways(times, own, other) != [] and self._ways(times, other, own) != []

    def _ways(self, times, own, other):
        """What the speaker can have left and the answers, so that a signal that it is done and all else can follow."""
        found = []
        for rest, answers in choices(self.value, self.told[own], other - 1):
            if self.table[times - 1][rest][other - 1 - answers]:
                found.append((rest, answers))
        return found


def raised_row(value, times):
    """What a line of wires has to tell: each message, and that it is done."""
    return [value, 1] * times


def check_value(value):
    if not is_between(value, 1, MOST_VALUES):
        raise InvalidValue(value)


def check_times(times):
    if not is_between(times, 0, MOST_TIMES):
        raise InvalidTimes(times)


def _can(spec, value, times):
    if spec[0] == "wires":
        return can_serve_raised(value, times, spec[1])
    return can_serve(value, times, spec[1], spec[2])
