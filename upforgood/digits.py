"""Numbers that stand for tuples of digits, in the order of the tuples."""


def product_of(numbers):
    result = 1
    for number in numbers:
        result *= number
    return result


def digits_of(numbers, value):
    """The first digit counts most, as tuples are ordered by their first items."""
    digits = []
    left = value
    for number in reversed(numbers):
        digits.append(left % number)
        left = left // number
    return digits[::-1]


def value_of(numbers, digits):
    value = 0
    for number, digit in zip(numbers, digits):
        value = value * number + digit
    return value
