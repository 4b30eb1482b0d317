"""Least lines, and rows told within bounds: points 141 to 143."""

from upforgood.checks import is_between
from upforgood.errors import InvalidAnswers, InvalidLetters, TooMany
from upforgood.keeping import numbers_of
from upforgood.rows import check_row_and_kinds, stairs, stairs_by, told_by_kinds, ways
from upforgood.texts import own_row
from upforgood.trees import bare_tree
from upforgood.wires import leasts

MOST_KINDS = 16
MOST_WIRES = 10
BEYOND_ALL = 25


def least_pairs(row, most):
    found = []
    least_before = None
    for own, least in enumerate(stairs(row, most)[0]):
        if least is not None and (least_before is None or least < least_before):
            found.append((own, least))
        least_before = least
    return found


def least_wires(ends, pairs, text):
    tree = bare_tree(ends, pairs)
    found = [_least_wires(tree, text, u, w) for u, w, _ in tree.lines]
    for count in found:
        if count > MOST_WIRES:
            raise TooMany(count)
    return tuple(found)


def can_tell_within(row, own, other, answers, letters):
    check_row_and_kinds(row, own, other)
    if not is_between(answers, 0, MOST_KINDS):
        raise InvalidAnswers(answers)
    if not is_between(letters, 0, MOST_KINDS):
        raise InvalidLetters(letters)
    least = stairs_by(row, _told_within(max(own, other), answers, letters))[0][own]
    return least is not None and least <= other


def fewest_answers(row, own, other):
    return min([answers for answers, _ in ways(row, own, other).values()], default=None)


def fewest_kinds(row, own, other):
    used = [own + other - sum(left) for left in ways(row, own, other)]
    return min(used, default=None)


def _told_within(most, answers, letters):
    """As told_by_kinds, but nothing by more letters or more answers than these."""
    told = []
    for kinds, by_rest in enumerate(told_by_kinds(most)):
        told.append([values[:answers + 1] if kinds - rest <= letters else [] for rest, values in enumerate(by_rest)])
    return told


def _least_wires(tree, text, u, w):
    least = leasts(numbers_of(own_row(tree, text, u, w)))[0]
    return BEYOND_ALL if least is None else least
