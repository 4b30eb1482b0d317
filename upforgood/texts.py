"""Texts of who tells whom, and what they ask of each line: points 53 and 54."""

from upforgood.checks import are_between, is_ascending, is_between
from upforgood.errors import InvalidText, InvalidValue
from upforgood.parts import due_to, hearers_in, many_answers, many_for
from upforgood.trees import beyond

MOST_STEPS = 8
MOST_VALUES = 10 ** 12


def is_text(tree, value):
    if not isinstance(value, tuple) or not is_between(len(value), 1, MOST_STEPS):
        return False
    last = len(value) - 1
    if not all([_is_step(tree, step, at == last) for at, step in enumerate(value)]):
        return False
    return all([goes_on(value[at]) == value[at + 1][1] for at in range(last)])


def values_of(step):
    return many_for(step, step[2])


def due_of(step, value):
    if not is_value(step, value):
        raise InvalidValue(value)
    hearers = list(step[2])
    return [(hearer, due_to(step, hearers, value, hearer)) for hearer in hearers]


def is_value(step, value):
    return is_between(value, 0, values_of(step) - 1 + int(may_end(step)))


def own_row(tree, text, u, w):
    row = []
    for asked in rows_by_steps(tree, text, u, w):
        row.extend(asked)
    return row


def rows_by_steps(tree, text, u, w):
    """For each step the list of what it asks of the line between u and w."""
    with_w = beyond(tree, u, w)
    with_u = beyond(tree, w, u)
    check_text(tree, text)
    rows = []
    for step in text:
        if step[1] in with_u:
            rows.append(_asked(step, u, w, with_w))
        else:
            rows.append(_asked(step, w, u, with_u))
    return rows


def check_text(tree, text):
    if not is_text(tree, text):
        raise InvalidText(text)


def may_end(step):
    return step[5]


def goes_on(step):
    """The end that goes on from a step, or 0."""
    if step[0] == "ask":
        return step[1]
    return step[4]


def _asked(step, near, far, far_ends):
    """What a step asks of the line from near to far, beyond which the far ends stand."""
    hearers = hearers_in(step, far_ends)
    if hearers == []:
        return [(near, 1)] if goes_on(step) in far_ends else []
    told = (near, many_for(step, hearers) + int(may_end(step)))
    if step[0] == "ask":
        return [told, (far, many_answers(step, hearers))]
    if goes_on(step) == 0 or goes_on(step) in far_ends:
        return [told]
    return [told, (far, 1)]


def _is_step(tree, step, is_last):
    if not isinstance(step, tuple) or len(step) != 6:
        return False
    word, speaker, hearers, many, behind, ends = step
    if not is_between(speaker, 1, tree.ends) or not _are_hearers(tree, hearers, speaker):
        return False
    if not isinstance(ends, bool):
        return False
    if word == "tell":
        return _is_many(many) and _can_go_on(tree, behind, is_last)
    if word == "deal":
        return _are_numbers(many, hearers) and _can_go_on(tree, behind, is_last)
    if word == "ask":
        return _is_many(many) and _are_numbers(behind, hearers)
    return False


def _are_hearers(tree, value, speaker):
    if not isinstance(value, tuple) or value == ():
        return False
    return are_between(value, 1, tree.ends) and is_ascending(value) and speaker not in value


def _is_many(value):
    return is_between(value, 1, MOST_VALUES)


def _are_numbers(value, hearers):
    if not isinstance(value, tuple) or len(value) != len(hearers):
        return False
    return are_between(value, 1, MOST_VALUES)


def _can_go_on(tree, value, is_last):
    fewest = 0 if is_last else 1
    return is_between(value, fewest, tree.ends)
