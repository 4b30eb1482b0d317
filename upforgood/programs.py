"""Programs of ends as tables, and with their kinds folded: points 61 to 63."""

from upforgood.checks import is_between, is_integer, is_list
from upforgood.errors import InvalidFolds, InvalidRows, InvalidStanding, TooMany

MOST_ROWS = 400
MOST_WITHIN = 6
LAST_NEIGHBOUR = 5
MOST_FOLDED = 10


class Table:
    """A program that is written down row by row."""

    def __init__(self, first, rows):
        if not is_standing(first):
            raise InvalidStanding(first)
        if isinstance(rows, dict) and len(rows) > MOST_ROWS:
            raise TooMany(len(rows))
        if not _are_rows(rows):
            raise InvalidRows(rows)
        self._first = first
        self._rows = {key: rows[key] for key in rows}

    def __eq__(self, other):
        return isinstance(other, Table) and self._first == other._first and self._rows == other._rows

    def first(self):
        return self._first

    def step(self, standing, event):
        return self._rows.get((standing, event), (standing, (), ()))

    def rows(self):
        return {key: self._rows[key] for key in self._rows}


class Folded:
    """A program that does as another one, but sends fewer kinds."""

    def __init__(self, program, folds):
        if not _are_folds(folds):
            raise InvalidFolds(folds)
        self._program = program
        self._many = {neighbour: many for neighbour, many in folds}

    def first(self):
        return self._program.first()

    def step(self, standing, event):
        behind, sends, says = self._program.step(standing, event)
        return (behind, self._folded(sends), says)

    def _folded(self, sends):
        folded = []
        for neighbour, kind in sends:
            sent = (neighbour, self._kind(neighbour, kind))
            if self._is_sent(neighbour) and sent not in folded:
                folded.append(sent)
        return tuple(folded)

    def _is_sent(self, neighbour):
        return self._many.get(neighbour) != 0

    def _kind(self, neighbour, kind):
        many = self._many.get(neighbour)
        if many is None or many == 0:
            return kind
        return (kind - 1) % many + 1


def is_standing(value, most=MOST_WITHIN):
    """Whether this is a standing of at most so many tuples within one another."""
    if isinstance(value, tuple):
        return most > 0 and all([is_standing(part, most - 1) for part in value])
    return isinstance(value, str) or is_integer(value)


def is_event(value):
    if not isinstance(value, tuple) or value == ():
        return False
    if value[0] == "handed":
        return len(value) == 2 and is_integer(value[1])
    if value[0] == "comes":
        return len(value) == 3 and is_integer(value[1]) and is_integer(value[2])
    return False


def are_sends(value):
    return isinstance(value, tuple) and all([_are_integers(send, 2) for send in value])


def are_says(value):
    return isinstance(value, tuple) and all([_is_say(say) for say in value])


def _is_say(value):
    if not isinstance(value, tuple) or value == ():
        return False
    if value[0] == "decides":
        return len(value) == 2 and (is_integer(value[1]) or value[1] == "end")
    if value[0] == "answers":
        return len(value) == 2 and _are_answers(value[1])
    return value == ("done",)


def _are_answers(value):
    return isinstance(value, tuple) and value != () and _are_integers(value, len(value))


def _are_integers(value, many):
    if not isinstance(value, tuple) or len(value) != many:
        return False
    return all([is_integer(part) for part in value])


def _are_rows(value):
    if not isinstance(value, dict):
        return False
    return all([_is_key(key) and _is_deed(deed) for key, deed in value.items()])


def _is_key(value):
    if not isinstance(value, tuple) or len(value) != 2:
        return False
    return is_standing(value[0]) and is_event(value[1])


def _is_deed(value):
    if not isinstance(value, tuple) or len(value) != 3:
        return False
    return is_standing(value[0]) and are_sends(value[1]) and are_says(value[2])


def _are_folds(value):
    """Nobody asks for their number: five different neighbours are all that there are."""
    if not is_list(value) or not all([_is_fold(fold) for fold in value]):
        return False
    return len({neighbour for neighbour, _ in value}) == len(value)


def _is_fold(value):
    if not _are_integers(value, 2):
        return False
    return is_between(value[0], 1, LAST_NEIGHBOUR) and is_between(value[1], 0, MOST_FOLDED)
