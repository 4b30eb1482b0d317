"""Which texts can be kept over a tree, and what that takes of each line: points 91 to 93."""

from upforgood.checks import is_between, is_list
from upforgood.errors import InvalidAt, InvalidPaper
from upforgood.rows import fits, plan
from upforgood.texts import check_text, own_row, rows_by_steps
from upforgood.wires import raise_fits, raise_plan


def can_keep(tree, text):
    return barred(tree, text) == []


def papers(tree, text):
    check_text(tree, text)
    found = [_plan(tree, text, line) for line in tree.lines]
    return None if None in found else found


def is_paper(tree, text, value):
    check_text(tree, text)
    if not is_list(value) or len(value) != len(tree.lines):
        return False
    return all([_fits(tree, text, line, rounds) for line, rounds in zip(tree.lines, value)])


def barred(tree, text):
    check_text(tree, text)
    return [(line[0], line[1]) for line in tree.lines if _plan(tree, text, line) is None]


def uses(tree, text, value, at):
    check_paper(tree, text, value)
    if not is_between(at, 0, len(text) - 1):
        raise InvalidAt(at)
    return [_use(tree, text, line, rounds, at) for line, rounds in zip(tree.lines, value)]


def check_paper(tree, text, value):
    if not is_paper(tree, text, value):
        raise InvalidPaper(value)


def numbers_of(row):
    return [number for _, number in row]


def kinds_for(line, row):
    """The kinds of the first speaker of a row over a line of letters, and those of the other end."""
    u, _, spec = line
    if row == [] or row[0][0] == u:
        return spec[1:]
    return (spec[2], spec[1])


def _plan(tree, text, line):
    u, w, spec = line
    row = own_row(tree, text, u, w)
    if spec[0] == "wires":
        return raise_plan(numbers_of(row), spec[1])
    own, other = kinds_for(line, row)
    return plan(numbers_of(row), own, other)


def _fits(tree, text, line, rounds):
    u, w, spec = line
    row = own_row(tree, text, u, w)
    if spec[0] == "wires":
        return raise_fits(numbers_of(row), spec[1], rounds)
    own, other = kinds_for(line, row)
    return fits(numbers_of(row), own, other, rounds)


def _use(tree, text, line, rounds, at):
    u, w, _ = line
    rows = rows_by_steps(tree, text, u, w)
    begun = sum([len(asked) for asked in rows[:at]])
    cost = {u: 0, w: 0}
    for number, (end, _) in enumerate(rows[at]):
        sizes = rounds[begun + number]
        other = u + w - end
        cost[end] += sum(sizes)
        cost[other] += len(sizes) - 1
    return (cost[u], cost[w])
