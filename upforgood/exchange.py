"""What two ends can tell each other at once: points 161 to 163.

The side with more kinds, or side 0, leads: the sides send their rounds by turns from
there, and none is sent ahead of the whole coming of the one before it. So each side
knows of each kind that comes in which round it was sent.
"""

from upforgood.checks import is_between
from upforgood.errors import Handed, InvalidOther, InvalidOwn, InvalidSide, InvalidValue
from upforgood.lines import Line
from upforgood.tellings import Telling, greatest_by, sizes_by

FEWEST_KINDS = 2
MOST_KINDS = 16
MOST_AT_WORK = 8


def both(own, other):
    _check_kinds(own, other, MOST_KINDS)
    return (greatest_by(own, other + 2), greatest_by(other, own + 2))


def both_known(own, other):
    _check_kinds(own, other, MOST_KINDS)
    return (greatest_by(own, other + 1), greatest_by(other, own + 1))


class Exchange:
    """Two sides that are handed a value each, and tell it to the other one."""

    def __init__(self, own, other, known):
        _check_kinds(own, other, MOST_AT_WORK)
        is_known = known is True
        self._numbers = both_known(own, other) if is_known else both(own, other)
        self._line = Line(("letters", own, other))
        self._sides = _sides(own, other, is_known)
        self._decided = [None, None]
        self._knows = [False, False]

    def numbers(self):
        return self._numbers

    def hand(self, side, value):
        _check_side(side)
        if self._sides[side].rounds != []:
            raise Handed(side)
        if not is_between(value, 0, self._numbers[side] - 1):
            raise InvalidValue(value)
        self._send(side, self._sides[side].handed(value))
        return []

    def give(self, side, kind):
        _check_side(side)
        hearer = 1 - side
        if not self._line.come(hearer, kind):
            return []
        sends, says = self._sides[hearer].comes(kind)
        self._send(hearer, sends)
        for say in says:
            if say[0] == "decides":
                self._decided[hearer] = say[1]
            else:
                self._knows[hearer] = True
        return [(hearer, say) for say in says]

    def under_way(self):
        return [(side, kind) for side in (0, 1) for kind in self._line.under_way(1 - side)]

    def calm(self):
        given = []
        under_way = self.under_way()
        while under_way != []:
            side, kind = under_way[0]
            self.give(side, kind)
            given.append((side, kind))
            under_way = self.under_way()
        return given

    def decided(self, side):
        _check_side(side)
        return self._decided[side]

    def knows(self, side):
        _check_side(side)
        return self._knows[side]

    def _send(self, side, kinds):
        for kind in kinds:
            self._line.send(side, kind)


class Side:
    """One side. What it does hangs alone on what it is handed and what comes to it."""

    def __init__(self, own, theirs, leads, is_known):
        self.own = own
        self.theirs = theirs
        self.leads = leads
        self.is_known = is_known
        self.rounds = []
        self.gone = 0
        self.came = []

    def handed(self, value):
        """The kinds that are sent at once."""
        self.rounds = self.own.rounds(value)
        return self._next_round()

    def comes(self, kind):
        """The kinds that are sent behind a kind that is new here, and what is said."""
        self.came.append(kind)
        says = []
        if self._has_just_come(len(self.theirs.sizes)):
            says.append(("decides", self.theirs.value(self.came)))
        # The round that answers the last one by which this side tells its value.
        proof = len(self.own.sizes) if self.leads else len(self.own.sizes) + 1
        if self.is_known and self._has_just_come(proof):
            says.append(("knows",))
        return (self._next_round(), says)

    def _has_just_come(self, rounds):
        return len(self.came) == self.theirs.kinds_in(rounds)

    def _next_round(self):
        ahead = self.gone if self.leads else self.gone + 1
        if self.gone == len(self.rounds) or self.theirs.many_whole(len(self.came)) < ahead:
            return ()
        self.gone += 1
        return self.rounds[self.gone - 1]


def _sides(own, other, is_known):
    """Both sides, with as many signals as it takes for the turns of the other one and for what is to be known."""
    parts = 1 if is_known else 2
    sizes = [sizes_by(own, other + parts), sizes_by(other, own + parts)]
    leader = 0 if own >= other else 1
    lead, follow = len(sizes[leader]), len(sizes[1 - leader])
    many = [0, 0]
    many[leader] = max(lead, follow + int(is_known))
    many[1 - leader] = max(follow, lead - 1 + int(is_known))
    tellings = []
    for side, kinds in enumerate((own, other)):
        tellings.append(Telling(kinds, sizes[side], many[side] - len(sizes[side])))
    return [Side(tellings[side], tellings[1 - side], side == leader, is_known) for side in (0, 1)]


def _check_kinds(own, other, most):
    if not is_between(own, FEWEST_KINDS, most):
        raise InvalidOwn(own)
    if not is_between(other, FEWEST_KINDS, most):
        raise InvalidOther(other)


def _check_side(side):
    if not is_between(side, 0, 1):
        raise InvalidSide(side)
