"""Messages in any order, and the room that each number has: points 211 to 214."""

from upforgood.checks import is_between, is_list
from upforgood.errors import InvalidAt, InvalidMessages, InvalidOrder, InvalidSpec, InvalidTells
from upforgood.keeping import barred, kinds_for, numbers_of
from upforgood.leftover import all_left, left_behind_each, letters_left, wires_left
from upforgood.lines import is_spec
from upforgood.rows import can_tell, check_row_and_kinds, stairs
from upforgood.texts import MOST_VALUES, check_text, is_text, own_row, rows_by_steps
from upforgood.wires import can_raise, check_row_and_wires, leasts

MOST_IN_ORDER = 8
MOST_MESSAGES = 6
MOST_TELLS = 6
SIGNAL = 1


def row_of(order):
    _check_order(order)
    if len(order) == 0:
        return (0, [])
    row = []
    for at, (side, number) in enumerate(order):
        if at > 0 and order[at - 1][0] == side:
            row.append(SIGNAL)
        row.append(number)
    return (order[0][0], row)


def can_order(spec, order):
    _check_spec(spec)
    side, row = row_of(order)
    if spec[0] == "wires":
        return can_raise(row, spec[1])
    return can_tell(row, spec[1 + side], spec[2 - side])


def orders(spec, messages):
    _check_spec(spec)
    if not _are_messages(messages, MOST_MESSAGES):
        raise InvalidMessages(messages)
    return _orders(all_left(spec), (), sorted(messages))


def kept_order(tree, tells):
    if not is_list(tells) or not is_between(len(tells), 1, MOST_TELLS):
        raise InvalidTells(tells)
    if not all([_is_tell(tree, tell) for tell in tells]):
        raise InvalidTells(tells)
    lines = [all_left(spec) for _, _, spec in tree.lines]
    return Ordering(tree).going_on(lines, (), sorted(tells))


def room(row, own, other):
    check_row_and_kinds(row, own, other)
    most = max(own, other)
    ahead = left_behind_each(letters_left(own, other), row)
    behind = stairs(row, most)
    return [_most_told(ahead[at], at % 2, behind[at + 1]) for at in range(len(row))]


def room_raised(row, wires):
    check_row_and_wires(row, wires)
    ahead = left_behind_each(wires_left(wires), row)
    behind = leasts(row)
    return [_most_raised(ahead[at], behind[at + 1]) for at in range(len(row))]


def room_of(tree, text, at):
    check_text(tree, text)
    if not is_between(at, 0, len(text) - 1) or text[at][0] == "deal":
        raise InvalidAt(at)
    rooms = [_room_on(tree, text, at, line) for line in tree.lines]
    return max(0, min([number for number in rooms if number is not None]))


class Ordering:
    """A search for an order of tells in which they can be kept."""

    def __init__(self, tree):
        self.tree = tree
        self.asked = {}

    def going_on(self, lines, begun, tells):
        """A text that begins so, and goes on with these tells in any order; None if there is none.

        lines is what can be left of each line behind all steps that have begun but the last
        one: what that asks of the lines hangs on the speaker of the next one.
        """
        if tells == []:
            text = begun[:-1] + (begun[-1][:4] + (0, False),)
            return None if self._behind(lines, text[-1:]) is None else text
        for at, tell in enumerate(tells):
            if at > 0 and tell == tells[at - 1]:
                continue
            known = begun[:-1] + tuple([step[:4] + (tell[0], False) for step in begun[-1:]])
            left = self._behind(lines, known[-1:])
            if left is not None:
                step = ("tell",) + tell + (0, False)
                found = self.going_on(left, known + (step,), tells[:at] + tells[at + 1:])
                if found is not None:
                    return found
        return None

    def _behind(self, lines, steps):
        """What can be left of the lines behind one step, or none; None if a line cannot tell its own."""
        found = []
        for (u, w, _), left in zip(self.tree.lines, lines):
            for end, number in self._row(steps, u, w):
                left = None if left is None else left.behind(int(end == w), number)
            found.append(left)
        return None if None in found else found

    def _row(self, steps, u, w):
        if steps == ():
            return []
        key = (steps, u, w)
        if key not in self.asked:
            self.asked[key] = own_row(self.tree, steps, u, w)
        return self.asked[key]


def _orders(left, begun, messages):
    """All orders that begin so and go on with these messages, which are sorted; left is what the beginning leaves."""
    if messages == []:
        return [begun]
    found = []
    for at, message in enumerate(messages):
        if at > 0 and message == messages[at - 1]:
            continue
        behind = _behind_message(left, begun, message)
        if behind is not None:
            found.extend(_orders(behind, begun + (message,), messages[:at] + messages[at + 1:]))
    return found


def _behind_message(left, begun, message):
    side, number = message
    ready = left
    if begun != () and begun[-1][0] == side:
        ready = left.behind(1 - side, SIGNAL)
    return None if ready is None else ready.behind(side, number)


def _most_told(left, side, further):
    """The greatest number that this side can tell; further is the stair of what has to follow."""
    if left is None:
        return 0
    best = 0
    for way in left.ways:
        for rest, values in enumerate(left.told[way[side]]):
            for answers, number in enumerate(values[:way[1 - side] + 1]):
                least = further[way[1 - side] - answers]
                if least is not None and least <= rest:
                    best = max(best, number)
    return best


def _most_raised(left, need):
    if left is None or need is None:
        return 0
    return max([number for number, _ in left.told[left.wires][need:]], default=0)


def _room_on(tree, text, at, line):
    """The greatest number that a step may have for a line, 0 if none will do, or None if each will."""
    u, w, spec = line
    place = _place(tree, text, at, u, w)
    if place is None:
        return 0 if (u, w) in barred(tree, text) else None
    row = own_row(tree, text, u, w)
    if spec[0] == "wires":
        rooms = room_raised(numbers_of(row), spec[1])
    else:
        own, other = kinds_for(line, row)
        rooms = room(numbers_of(row), own, other)
    return rooms[place] - int(text[at][5])


def _place(tree, text, at, u, w):
    """The place in a line's own row of the number that the value of a step gives it, or None."""
    rows = rows_by_steps(tree, text, u, w)
    step = text[at]
    other = step[3] + 1 if step[3] < MOST_VALUES else 1
    changed = text[:at] + (step[:3] + (other,) + step[4:],) + text[at + 1:]
    if rows_by_steps(tree, changed, u, w)[at] == rows[at]:
        return None
    return sum([len(asked) for asked in rows[:at]])


def _check_spec(spec):
    if not is_spec(spec):
        raise InvalidSpec(spec)


def _check_order(order):
    if not _are_messages(order, MOST_IN_ORDER):
        raise InvalidOrder(order)


def _are_messages(value, most):
    return is_list(value) and len(value) <= most and all([_is_message(message) for message in value])


def _is_message(value):
    if not isinstance(value, tuple) or len(value) != 2:
        return False
    return is_between(value[0], 0, 1) and is_between(value[1], 1, MOST_VALUES)


def _is_tell(tree, value):
    if not isinstance(value, tuple) or len(value) != 3:
        return False
    return is_text(tree, (("tell",) + value + (0, False),))
