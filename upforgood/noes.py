"""Why texts cannot be kept, and how far rows can be told: points 181 and 182."""

from upforgood.checks import is_integer, is_list
from upforgood.keeping import barred, numbers_of
from upforgood.leftover import left_behind_each, letters_left, wires_left
from upforgood.rows import check_row_and_kinds, stairs, stairs_hold
from upforgood.texts import own_row
from upforgood.wires import check_row_and_wires, leasts


def no_paper(tree, text):
    bars = barred(tree, text)
    if bars == []:
        return None
    u, w = bars[0]
    numbers = numbers_of(own_row(tree, text, u, w))
    spec = tree.spec(u, w)
    if spec[0] == "wires":
        return (u, w, leasts(numbers))
    return (u, w, stairs(numbers, max(spec[1:])))


def is_no_paper(tree, text, value):
    bars = barred(tree, text)
    if not isinstance(value, tuple) or len(value) != 3:
        return False
    u, w, table = value
    if not is_integer(u) or not is_integer(w) or (u, w) not in bars:
        return False
    numbers = numbers_of(own_row(tree, text, u, w))
    spec = tree.spec(u, w)
    if spec[0] == "wires":
        return _are_leasts(table) and list(table) == leasts(numbers)
    return stairs_hold(numbers, max(spec[1:]), table)


def told_until(row, own, other):
    check_row_and_kinds(row, own, other)
    return _many_told(letters_left(own, other), row)


def raised_until(row, wires):
    check_row_and_wires(row, wires)
    return _many_told(wires_left(wires), row)


def _many_told(left, row):
    return len([behind for behind in left_behind_each(left, row)[1:] if behind is not None])


def _are_leasts(value):
    return is_list(value) and all([least is None or is_integer(least) for least in value])
