"""Rows of numbers that two ends tell each other over letters: points 71 to 73."""

from upforgood.checks import are_between, are_from, is_between, is_integer, is_list
from upforgood.errors import InvalidMost, InvalidOther, InvalidOwn, InvalidPlan, InvalidRow
from upforgood.numbers import arrangements, even_parts, most_arranged

MOST_NUMBERS = 16
GREATEST = 10 ** 50
MOST_KINDS = 16


def can_tell(row, own, other):
    check_row_and_kinds(row, own, other)
    least = stairs_by(row, told_by_kinds(max(own, other)))[0][own]
    return least is not None and least <= other


def fits(row, own, other, value):
    check_row_and_kinds(row, own, other)
    if not is_plan(value) or len(value) != len(row):
        return False
    kinds, answering = own, other
    for number, sizes in zip(row, value):
        rest = kinds - sum(sizes)
        answers = len(sizes) - 1
        if rest < 0 or answers > answering:
            return False
        if arrangements(sizes + (rest,)) < number:
            return False
        kinds, answering = answering - answers, rest
    return True


def plan(row, own, other):
    """Of the plans that fit one that uses the fewest kinds."""
    found = ways(row, own, other)
    if found == {}:
        return None
    most = max([sum(left) for left in found])
    return min([way for left, way in found.items() if sum(left) == most])[1]


def left_by(value, own, other):
    _check_kinds(own, other)
    if not is_plan(value) or len(value) > MOST_NUMBERS:
        raise InvalidPlan(value)
    kinds, answering = own, other
    for sizes in value:
        kinds, answering = answering - (len(sizes) - 1), kinds - sum(sizes)
        if kinds < 0 or answering < 0:
            raise InvalidPlan(value)
    if len(value) % 2 == 1:
        return (answering, kinds)
    return (kinds, answering)


def stairs(row, most):
    _check_stairs(row, most)
    return stairs_by(row, told_by_kinds(most))


def stairs_hold(row, most, value):
    _check_stairs(row, most)
    if not is_list(value) or not all([_is_stair(stair) for stair in value]):
        return False
    return [list(stair) for stair in value] == stairs_by(row, told_by_kinds(most))


def ways(row, own, other):
    """By the kinds of both ends that are left behind the row: the fewest answers in all, and a plan with so many."""
    check_row_and_kinds(row, own, other)
    told = told_by_kinds(max(own, other))
    found = {(own, other): (0, ())}
    for number in row:
        behind = {}
        for (kinds, answering), (total, rounds) in found.items():
            for rest, answers in choices(number, told[kinds], answering):
                left = (answering - answers, rest)
                way = (total + answers, rounds + (even_parts(kinds - rest, answers + 1),))
                behind[left] = min(way, behind.get(left, way))
        found = behind
    return found


def is_row(value):
    if not is_list(value) or len(value) > MOST_NUMBERS:
        return False
    return are_between(value, 1, GREATEST)


def is_plan(value):
    """Whether this is a plan of some row, of any length, over some line."""
    return isinstance(value, tuple) and all([_are_sizes(sizes) for sizes in value])


def _are_sizes(value):
    return isinstance(value, tuple) and value != () and are_from(value, 1)


def _is_stair(value):
    return is_list(value) and all([least is None or is_integer(least) for least in value])


def stairs_by(row, told):
    """Each stair from the one of what follows, as more kinds never tell less."""
    found = [[0] * len(told)]
    for number in row[::-1]:
        found.append(_stair(number, told, found[-1]))
    return found[::-1]


def _stair(number, told, further):
    needs = [_need(further, rest) for rest in range(len(further))]
    return [_least(number, told[kinds], needs) for kinds in range(len(further))]


def _least(number, told, needs):
    """The least kinds of the answering end, for its answers and for the rest of the row."""
    least = None
    for rest, values in enumerate(told):
        answers = _fewest_answers(number, values)
        if answers is None or needs[rest] is None:
            continue
        both = answers + needs[rest]
        if both < len(needs) and (least is None or both < least):
            least = both
    return least


def _need(further, rest):
    """The least kinds of the next speaker to tell all that follows, where the other end has the rest."""
    for kinds, least in enumerate(further):
        if least is not None and least <= rest:
            return kinds
    return None


def choices(number, told, answering):
    """How many kinds can be left of the speaker, each time with the fewest answers that this takes."""
    found = [(rest, _fewest_answers(number, values)) for rest, values in enumerate(told)]
    return [(rest, answers) for rest, answers in found if answers is not None and answers <= answering]


def _fewest_answers(number, values):
    """More answers over the same kinds tell more, so the first number that will do is the least."""
    for answers, many in enumerate(values):
        if many >= number:
            return answers
    return None


def told_by_kinds(most):
    """By kinds of the speaker, those left to it and answers: the greatest number that is told."""
    return [[_told_by(kinds, rest) for rest in range(kinds)] for kinds in range(most + 1)]


def _told_by(kinds, rest):
    return [most_arranged(kinds, rounds, rest) for rounds in range(1, kinds - rest + 1)]


def check_row_and_kinds(row, own, other):
    _check_row(row)
    _check_kinds(own, other)


def _check_row(row):
    if not is_row(row):
        raise InvalidRow(row)


def _check_kinds(own, other):
    if not is_between(own, 0, MOST_KINDS):
        raise InvalidOwn(own)
    if not is_between(other, 0, MOST_KINDS):
        raise InvalidOther(other)


def _check_stairs(row, most):
    _check_row(row)
    if not is_between(most, 0, MOST_KINDS):
        raise InvalidMost(most)
