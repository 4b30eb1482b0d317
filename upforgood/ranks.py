"""Rounds of letters and raised rounds of wires, by their ranks: points 31 and 32.

Both are told apart here by their gap: how many kinds, the least ones that are
left, an answer takes away between two rounds. It is 0 for letters, whose answers
are sent the other way, and 1 for wires.
"""

from math import comb

from upforgood.checks import are_between, are_from, is_ascending, is_between, is_integer, is_list
from upforgood.errors import InvalidKinds, InvalidNumber, InvalidRank, InvalidRounds, InvalidSizes

MOST_KINDS = 16
LAST_KIND = 64
ON_LETTERS = 0
ON_WIRES = 1


def many_rounds(count, sizes):
    _check_count(count)
    _check_sizes(sizes)
    return _many(count, sizes, ON_LETTERS)


def rounds_of(rank, kinds, sizes):
    _check_rank(rank, kinds, sizes, ON_LETTERS)
    return rounds_at(rank, kinds, sizes, ON_LETTERS)


def rank_of(rounds, kinds):
    _check_rounds(rounds, kinds, ON_LETTERS)
    return rank_at(rounds, kinds, ON_LETTERS)


def many_raised(count, sizes):
    _check_count(count)
    _check_sizes(sizes)
    return _many(count, sizes, ON_WIRES)


def raised_of(rank, wires, sizes):
    _check_rank(rank, wires, sizes, ON_WIRES)
    return rounds_at(rank, wires, sizes, ON_WIRES)


def raised_rank(rounds, wires):
    _check_rounds(rounds, wires, ON_WIRES)
    return rank_at(rounds, wires, ON_WIRES)


def answers_of(rounds, wires):
    _check_rounds(rounds, wires, ON_WIRES)
    answers = []
    left = list(wires)
    for chosen in rounds[:-1]:
        answers.append(behind(left, chosen, 0)[0])
        left = behind(left, chosen, ON_WIRES)
    return tuple(answers)


def _many(count, sizes, gap):
    """The number of all rounds; the sizes alone tell how many kinds are left for each."""
    result = 1
    left = count
    for size in sizes:
        if size > left:
            return 0
        result *= comb(left, size)
        left = left - size - gap
    return result


def rounds_at(rank, kinds, sizes, gap):
    rounds = []
    left = list(kinds)
    for at, size in enumerate(sizes):
        further = _many(len(left) - size - gap, sizes[at + 1:], gap)
        chosen = _chosen_at(rank // further, left, size)
        rank = rank % further
        left = behind(left, chosen, gap)
        rounds.append(chosen)
    return tuple(rounds)


def rank_at(rounds, kinds, gap):
    rank = 0
    left = list(kinds)
    for at, chosen in enumerate(rounds):
        rank *= _many_chosen(left, chosen)
        rank += _chosen_rank(chosen, left)
        left = behind(left, chosen, gap)
    return rank


def _many_chosen(kinds, chosen):
    return comb(len(kinds), len(chosen))


def behind(kinds, chosen, gap):
    """What is left of the kinds behind a round and its answer."""
    return [kind for kind in kinds if kind not in chosen][gap:]


def _chosen_at(rank, kinds, size):
    """The ascending tuple of so many kinds that has this index among all of them."""
    chosen = []
    for at, kind in enumerate(kinds):
        if len(chosen) == size:
            break
        with_kind = comb(len(kinds) - at - 1, size - len(chosen) - 1)
        if rank < with_kind:
            chosen.append(kind)
        else:
            rank -= with_kind
    return tuple(chosen)


def _chosen_rank(chosen, kinds):
    rank = 0
    found = 0
    for at, kind in enumerate(kinds):
        if found == len(chosen):
            break
        if kind == chosen[found]:
            found += 1
        else:
            rank += comb(len(kinds) - at - 1, len(chosen) - found - 1)
    return rank


def _check_count(count):
    if not is_between(count, 0, MOST_KINDS):
        raise InvalidNumber(count)


def _check_kinds(kinds):
    if not is_list(kinds) or len(kinds) > MOST_KINDS:
        raise InvalidKinds(kinds)
    if not are_between(kinds, 1, LAST_KIND) or not is_ascending(kinds):
        raise InvalidKinds(kinds)


def _check_sizes(sizes):
    if not is_list(sizes) or len(sizes) > MOST_KINDS or not are_from(sizes, 1):
        raise InvalidSizes(sizes)


def _check_rank(rank, kinds, sizes, gap):
    _check_kinds(kinds)
    _check_sizes(sizes)
    if not is_between(rank, 0, _many(len(kinds), sizes, gap) - 1):
        raise InvalidRank(rank)


def _check_rounds(rounds, kinds, gap):
    _check_kinds(kinds)
    if not _are_rounds(rounds, kinds, gap):
        raise InvalidRounds(rounds)


def _are_rounds(value, kinds, gap):
    if not isinstance(value, tuple):
        return False
    left = list(kinds)
    for chosen in value:
        if not _is_chosen(chosen, left):
            return False
        left = behind(left, chosen, gap)
    return True


def _is_chosen(value, kinds):
    if not isinstance(value, tuple) or value == ():
        return False
    if not all([is_integer(kind) and kind in kinds for kind in value]):
        return False
    return is_ascending(value)
