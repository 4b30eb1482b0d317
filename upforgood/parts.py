"""Which part of a step's value, or of its answers, belongs to some of its hearers.

Some hearers are a list, ascending. What is told to them is one number: a value
that is the same for all of them, the number that stands for their digits in a
deal, or the number of these values, which stands for the end.
"""

from upforgood.digits import digits_of, product_of, value_of

END = "end"


def hearers_in(step, ends):
    return [hearer for hearer in step[2] if hearer in ends]


def many_for(step, some):
    """How many values are told to some of the hearers, the end not counted."""
    if step[0] == "deal":
        return product_of(_numbers(step, step[3], some))
    return step[3]


def is_end(step, some, value):
    return step[5] and some != [] and value == many_for(step, some)


def due_to(step, some, value, hearer):
    """What is due to one of the hearers to whom a value is told."""
    if is_end(step, some, value):
        return END
    if step[0] == "deal":
        return digits_of(_numbers(step, step[3], some), value)[some.index(hearer)]
    return value


def part_for(step, some, value, fewer):
    """Of what is told to some of the hearers that which is told to fewer of them."""
    if fewer == []:
        return 0
    if is_end(step, some, value):
        return many_for(step, fewer)
    if step[0] != "deal":
        return value
    digits = [due_to(step, some, value, hearer) for hearer in fewer]
    return value_of(_numbers(step, step[3], fewer), digits)


def whole_value(step, some, told):
    """A value of the step of which this is told to some of the hearers, and 0 to the others."""
    if told == many_for(step, some):
        return many_for(step, step[2])
    if step[0] != "deal":
        return told
    digits = dict(zip(some, digits_of(_numbers(step, step[3], some), told)))
    return value_of(step[3], [digits.get(hearer, 0) for hearer in step[2]])


def answer_of(step, hearer):
    """How many answers a hearer has."""
    return _numbers(step, step[4], [hearer])[0]


def many_answers(step, some):
    return product_of(_numbers(step, step[4], some))


def answers_in(step, some, value):
    """The tuples (hearer, answer) that are told as one number of some of the hearers."""
    return list(zip(some, digits_of(_numbers(step, step[4], some), value)))


def joined_answers(step, answers):
    """The one number that tells a list of tuples (hearer, answer)."""
    told = sorted(answers)
    numbers = _numbers(step, step[4], [hearer for hearer, _ in told])
    return value_of(numbers, [answer for _, answer in told])


def _numbers(step, numbers, some):
    return [number for hearer, number in zip(step[2], numbers) if hearer in some]
