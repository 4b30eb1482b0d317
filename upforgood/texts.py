"""Texts of who tells whom, and what they ask of each line: points 53 and 54."""

from upforgood.checks import are_between, is_ascending, is_between
from upforgood.errors import InvalidText, InvalidValue
from upforgood.trees import beyond

MOST_STEPS = 8
MOST_VALUES = 10 ** 12
END = "end"


def is_text(tree, value):
    if not isinstance(value, tuple) or not is_between(len(value), 1, MOST_STEPS):
        return False
    last = len(value) - 1
    if not all([_is_step(tree, step, at == last) for at, step in enumerate(value)]):
        return False
    return all([_goes_on(value[at]) == value[at + 1][1] for at in range(last)])


def values_of(step):
    if step[0] == "deal":
        return _product(step[3])
    return step[3]


def due_of(step, value):
    many = values_of(step)
    hearers = step[2]
    if may_end(step) and is_between(value, many, many):
        return [(hearer, END) for hearer in hearers]
    if not is_between(value, 0, many - 1):
        raise InvalidValue(value)
    if step[0] == "deal":
        return list(zip(hearers, _digits(step[3], value)))
    return [(hearer, value) for hearer in hearers]


def own_row(tree, text, u, w):
    with_w = beyond(tree, u, w)
    with_u = beyond(tree, w, u)
    check_text(tree, text)
    row = []
    for step in text:
        if step[1] in with_u:
            row.extend(_asked(step, u, w, with_w))
        else:
            row.extend(_asked(step, w, u, with_u))
    return row


def check_text(tree, text):
    if not is_text(tree, text):
        raise InvalidText(text)


def may_end(step):
    return step[5]


def _asked(step, near, far, far_ends):
    """What a step asks of the line from near to far, beyond which the far ends stand."""
    hears = [hearer in far_ends for hearer in step[2]]
    if not any(hears):
        goes_beyond = _goes_on(step) in far_ends
        return [(near, 1)] if goes_beyond else []
    told = (near, _values_beyond(step, hears) + int(may_end(step)))
    if step[0] == "ask":
        return [told, (far, _product_where(step[4], hears))]
    if _goes_on(step) == 0 or _goes_on(step) in far_ends:
        return [told]
    return [told, (far, 1)]


def _values_beyond(step, hears):
    if step[0] == "deal":
        return _product_where(step[3], hears)
    return step[3]


def _product_where(numbers, chosen):
    return _product([number for at, number in enumerate(numbers) if chosen[at]])


def _product(numbers):
    result = 1
    for number in numbers:
        result *= number
    return result


def _digits(numbers, value):
    """The first hearer's digit counts most, as tuples are ordered by their first items."""
    digits = []
    left = value
    for number in reversed(numbers):
        digits.append(left % number)
        left = left // number
    return digits[::-1]


def _goes_on(step):
    """The end that goes on from a step, or 0."""
    if step[0] == "ask":
        return step[1]
    return step[4]


def _is_step(tree, step, is_last):
    if not isinstance(step, tuple) or len(step) != 6:
        return False
    word, speaker, hearers, many, behind, ends = step
    if not is_between(speaker, 1, tree.ends) or not _are_hearers(tree, hearers, speaker):
        return False
    if not isinstance(ends, bool):
        return False
    if word == "tell":
        return _is_many(many) and _can_go_on(tree, behind, is_last)
    if word == "deal":
        return _are_numbers(many, hearers) and _can_go_on(tree, behind, is_last)
    if word == "ask":
        return _is_many(many) and _are_numbers(behind, hearers)
    return False


def _are_hearers(tree, value, speaker):
    if not isinstance(value, tuple) or value == ():
        return False
    return are_between(value, 1, tree.ends) and is_ascending(value) and speaker not in value


def _is_many(value):
    return is_between(value, 1, MOST_VALUES)


def _are_numbers(value, hearers):
    if not isinstance(value, tuple) or len(value) != len(hearers):
        return False
    return are_between(value, 1, MOST_VALUES)


def _can_go_on(tree, value, is_last):
    fewest = 0 if is_last else 1
    return is_between(value, fewest, tree.ends)
