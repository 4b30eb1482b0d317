"""What values are: the checks that several files share."""


def is_integer(value):
    """True and False are no integers here, though Python counts them as such."""
    return isinstance(value, int) and not isinstance(value, bool)


def is_between(value, low, high):
    return is_integer(value) and low <= value <= high


def is_from(value, low):
    return is_integer(value) and low <= value


def is_list(value):
    """A tuple may be passed where a list is expected, not the other way round."""
    return isinstance(value, (list, tuple))


def are_between(values, low, high):
    return all([is_between(value, low, high) for value in values])


def are_from(values, low):
    return all([is_from(value, low) for value in values])


def is_ascending(numbers):
    return all([numbers[at] < numbers[at + 1] for at in range(len(numbers) - 1)])
