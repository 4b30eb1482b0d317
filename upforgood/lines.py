"""Lines that never forget: points 41 to 43."""

from upforgood.checks import are_between, is_between
from upforgood.errors import InvalidKind, InvalidSide, InvalidSpec, NotSent

MOST_LETTERS = 8
MOST_WIRES = 10


def is_spec(value):
    if not isinstance(value, tuple) or value == ():
        return False
    if value[0] == "letters":
        return len(value) == 3 and are_between(value[1:], 0, MOST_LETTERS)
    if value[0] == "wires":
        return len(value) == 2 and is_between(value[1], 0, MOST_WIRES)
    return False


class Line:
    """A line between the sides 0 and 1."""

    def __init__(self, spec):
        if not is_spec(spec):
            raise InvalidSpec(spec)
        self.spec = spec
        self._sent_by = [[], []]
        self._came_to = [[], []]

    def kinds(self, side):
        _check_side(side)
        if self._has_wires():
            return self.spec[1]
        return self.spec[1 + side]

    def send(self, side, kind):
        _check_side(side)
        if not is_between(kind, 1, self.kinds(side)):
            raise InvalidKind(kind)
        if not self._can_be_sent(side, kind):
            return False
        self._sent_by[side].append(kind)
        return True

    def come(self, side, kind):
        _check_side(side)
        if not is_between(kind, 1, self.kinds(1 - side)):
            raise InvalidKind(kind)
        if kind not in self._sent_by[1 - side]:
            raise NotSent(kind)
        if not self._can_come(side, kind):
            return False
        self._came_to[side].append(kind)
        return True

    def sent(self, side):
        _check_side(side)
        return sorted(self._sent_by[side])

    def come_to(self, side):
        _check_side(side)
        return sorted(self._came_to[side])

    def under_way(self, side):
        _check_side(side)
        return [kind for kind in sorted(self._sent_by[1 - side]) if self._can_come(side, kind)]

    def unsent(self, side):
        _check_side(side)
        kinds = range(1, self.kinds(side) + 1)
        return [kind for kind in kinds if self._can_be_sent(side, kind)]

    def left(self):
        if self._has_wires():
            raised = len(set(self._sent_by[0] + self._sent_by[1]))
            return (self.spec[1] - raised,)
        return (self.spec[1] - len(self._sent_by[0]), self.spec[2] - len(self._sent_by[1]))

    def copy(self):
        line = Line(self.spec)
        line._sent_by = [list(sent) for sent in self._sent_by]
        line._came_to = [list(come) for come in self._came_to]
        return line

    def _has_wires(self):
        return self.spec[0] == "wires"

    def _can_be_sent(self, side, kind):
        """A wire that came to a side is up there, so the side cannot raise it any more."""
        if self._has_wires() and kind in self._came_to[side]:
            return False
        return kind not in self._sent_by[side]

    def _can_come(self, side, kind):
        """A wire that the side itself raised is up there, so it does not come as a new one."""
        if self._has_wires() and kind in self._sent_by[side]:
            return False
        return kind not in self._came_to[side]


def _check_side(side):
    if not is_between(side, 0, 1):
        raise InvalidSide(side)
