"""Rows of numbers that two ends tell each other over wires: points 81 and 82."""

from math import comb

from upforgood.checks import is_between
from upforgood.errors import InvalidRow, InvalidWires
from upforgood.rows import is_plan, is_row

MOST_WIRES = 24


def can_raise(row, wires):
    return raise_plan(row, wires) is not None


def raise_fits(row, wires, value):
    check_row_and_wires(row, wires)
    if not is_plan(value) or len(value) != len(row):
        return False
    left = wires
    for number, sizes in zip(row, value):
        if sum(sizes) + len(sizes) - 1 > left or _raised_by(sizes, left) < number:
            return False
        left = left - sum(sizes) - len(sizes) + 1
    return True


def raise_plan(row, wires):
    check_row_and_wires(row, wires)
    told = most_told(wires)
    rounds = []
    left = wires
    for number in row:
        rest = most_rest(number, told[left])
        if rest is None:
            return None
        rounds.append(told[left][rest][1])
        left = rest
    return tuple(rounds)


def leasts(row):
    _check_row(row)
    told = most_told(MOST_WIRES)
    found = [0]
    for number in row[::-1]:
        found.append(_least(number, found[-1], told))
    return found[::-1]


def most_raised(wires):
    _check_wires(wires)
    return max([number for number, _ in most_told(wires)[wires]], default=0)


def _least(number, need, told):
    """The least wires that tell a number and leave at least as many as are needed."""
    if need is None:
        return None
    for wires, by_rest in enumerate(told):
        rest = most_rest(number, by_rest)
        if rest is not None and rest >= need:
            return wires
    return None


def most_rest(number, by_rest):
    """The most wires that can be left, as more of them never tell less."""
    for rest in range(len(by_rest) - 1, -1, -1):
        if by_rest[rest][0] >= number:
            return rest
    return None


def most_told(most):
    """By wires, and by how many of them are left: the greatest number and sizes that tell it."""
    told = []
    for wires in range(most + 1):
        told.append([_best(wires, rest, told) for rest in range(wires)])
    return told


def _best(wires, rest, told):
    """A first round, and then the best rounds over the wires that its answer leaves."""
    used = wires - rest
    best = (comb(wires, used), (used,))
    for size in range(1, used - 1):
        number, sizes = told[wires - size - 1][rest]
        number *= comb(wires, size)
        if number > best[0]:
            best = (number, (size,) + sizes)
    return best


def _raised_by(sizes, wires):
    number = 1
    left = wires
    for size in sizes:
        number *= comb(left, size)
        left = left - size - 1
    return number


def check_row_and_wires(row, wires):
    _check_row(row)
    _check_wires(wires)


def _check_row(row):
    if not is_row(row):
        raise InvalidRow(row)


def _check_wires(wires):
    if not is_between(wires, 0, MOST_WIRES):
        raise InvalidWires(wires)
