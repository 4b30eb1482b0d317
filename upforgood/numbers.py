"""Factorials, arrangements and even parts: points 22 and 23."""

from math import comb

from upforgood.checks import are_from, is_between, is_list
from upforgood.errors import InvalidMany, InvalidNumber, InvalidParts, InvalidRest

HIGHEST = 64


def factorial(number):
    _check_number(number)
    result = 1
    for factor in range(2, number + 1):
        result *= factor
    return result


def choose(number, many):
    _check_number(number)
    if not is_between(many, 0, HIGHEST):
        raise InvalidMany(many)
    return comb(number, many)


def arrangements(parts):
    """In how many orders things of several kinds stand, with so many of each kind."""
    if not is_list(parts) or not are_from(parts, 0) or sum(parts) > HIGHEST:
        raise InvalidParts(parts)
    result = 1
    total = 0
    for part in parts:
        total += part
        result *= comb(total, part)
    return result


def even_parts(total, many):
    _check_number(total)
    _check_many(many)
    low = total // many
    greater = total - low * many
    return (low + 1,) * greater + (low,) * (many - greater)


def most_arranged(total, rounds, rest):
    _check_number(total)
    _check_many(rounds)
    if not is_between(rest, 0, HIGHEST):
        raise InvalidRest(rest)
    if total - rest < rounds:
        return 0
    # Moving one from a greater part to one smaller by two or more never loses
    # arrangements, so the even parts have the most.
    return arrangements(even_parts(total - rest, rounds) + (rest,))


def _check_number(number):
    if not is_between(number, 0, HIGHEST):
        raise InvalidNumber(number)


def _check_many(many):
    if not is_between(many, 1, HIGHEST):
        raise InvalidMany(many)
