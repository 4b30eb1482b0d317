"""Points 31 and 32: rounds and raised rounds by their ranks."""

import unittest
from itertools import combinations, product

from tests.helper import NO_INTEGERS, NO_LISTS, Case
from upforgood.errors import InvalidKinds, InvalidNumber, InvalidRank, InvalidRounds, InvalidSizes
from upforgood.ranks import (
    answers_of, many_raised, many_rounds, raised_of, raised_rank, rank_of, rounds_of,
)

WRONG_KINDS = NO_LISTS + [
    [0], [65], [1, 65], [0, 1], [2, 1], [1, 1], [3, 4, 4], list(range(1, 18)), [1, True], [True], [False, 1],
    ["1"], [None], [[1]], [(1,)], [1, 2, None], [-1, 1],
]
WRONG_SIZES = NO_LISTS + [[0], [-1], [1, 0], [1] * 17, [True], [1, None], ["1"], [[1]], [(1,)], [0] * 20]
SOME_KINDS = [[], [1], [3, 4], [1, 5, 64], [2, 3, 5, 7], [10, 20, 30, 40, 50]]


def all_sizes(most):
    """All tuples of at most so many sizes from 1 to so much."""
    return [sizes for many in range(most + 1) for sizes in product(range(1, most + 1), repeat=many)]


def all_rounds(kinds, sizes, gap):
    """An own listing of all rounds, with the least kinds of the gap taken behind each but the last."""
    if not sizes:
        return [()]
    found = []
    for chosen in combinations(kinds, sizes[0]):
        left = [kind for kind in kinds if kind not in chosen]
        if len(sizes) == 1:
            found.append((chosen,))
        elif len(left) >= gap:
            found += [(chosen,) + rest for rest in all_rounds(left[gap:], sizes[1:], gap)]
    return found


class There(Case):
    """Rounds there and back, for all ranks of small numbers of kinds."""

    def there_and_back(self, gap, many_of, at_rank, rank_at):
        for kinds in SOME_KINDS:
            for sizes in all_sizes(min(len(kinds) + 1, 4)):
                expected = sorted(all_rounds(kinds, sizes, gap))
                self.assertEqual(many_of(len(kinds), list(sizes)), len(expected))
                for rank, rounds in enumerate(expected):
                    self.same(at_rank(rank, kinds, sizes), rounds)
                    self.same(rank_at(rounds, kinds), rank)
                for rank in [-1, len(expected)]:
                    self.refused(InvalidRank, rank, at_rank, rank, kinds, sizes)

    def test_rounds(self):
        self.there_and_back(0, many_rounds, rounds_of, rank_of)

    def test_raised_rounds(self):
        self.there_and_back(1, many_raised, raised_of, raised_rank)

    def test_the_greatest(self):
        kinds = list(range(49, 65))
        ones = [1] * 16
        last = tuple([(kind,) for kind in reversed(kinds)])
        self.assertEqual(many_rounds(16, ones), 20922789888000)
        self.same(rounds_of(20922789888000 - 1, kinds, ones), last)
        self.same(rank_of(last, kinds), 20922789888000 - 1)
        self.refused(InvalidRank, 20922789888000, rounds_of, 20922789888000, kinds, ones)
        eight = many_raised(16, [1] * 8)
        self.assertEqual(eight, 16 * 14 * 12 * 10 * 8 * 6 * 4 * 2)
        self.assertEqual(raised_rank(raised_of(eight - 1, kinds, [1] * 8), kinds), eight - 1)
        self.assertEqual(many_raised(16, [1] * 9), 0)

    def test_answers(self):
        for kinds in SOME_KINDS:
            for sizes in all_sizes(min(len(kinds), 3)):
                for rounds in all_rounds(kinds, sizes, 1):
                    left = list(kinds)
                    answers = []
                    for chosen in rounds[:-1]:
                        left = [kind for kind in left if kind not in chosen]
                        answers.append(left.pop(0))
                    self.same(answers_of(rounds, kinds), tuple(answers))

    def test_many(self):
        self.same([many_rounds(0, []), many_rounds(16, []), many_rounds(0, [1]), many_rounds(16, [16])], [1, 1, 0, 1])
        self.same([many_raised(0, []), many_raised(0, [1]), many_raised(1, [1, 1]), many_raised(2, [1, 1])], [1, 0, 0, 0])
        self.same([many_raised(3, [1, 1]), many_raised(16, [16]), many_raised(16, [15, 1])], [3, 1, 0])
        self.same([many_rounds(16, [10 ** 30]), many_raised(16, [1] * 16), many_rounds(3, [1] * 16)], [0, 0, 0])

    def test_names(self):
        self.assertEqual(many_rounds(count=4, sizes=[1, 2]), 12)
        self.assertEqual(rounds_of(rank=0, kinds=[1, 2], sizes=[1]), ((1,),))
        self.assertEqual(rank_of(rounds=((2,),), kinds=[1, 2]), 1)
        self.assertEqual(many_raised(count=4, sizes=[1, 1]), 8)
        self.assertEqual(raised_of(rank=0, wires=[1, 2], sizes=[1]), ((1,),))
        self.assertEqual(raised_rank(rounds=((2,),), wires=[1, 2]), 1)
        self.assertEqual(answers_of(rounds=((2,),), wires=[1, 2]), ())


class Refused(Case):
    def test_many(self):
        for call in [many_rounds, many_raised]:
            for wrong in [-1, 17, 10 ** 20] + NO_INTEGERS:
                self.refused(InvalidNumber, wrong, call, wrong, [1])
                self.refused(InvalidNumber, wrong, call, wrong, [0])
            for wrong in WRONG_SIZES:
                self.refused(InvalidSizes, wrong, call, 3, wrong)
            self.assertEqual(call(16, (1,)), 16)

    def test_rounds_of(self):
        for call in [rounds_of, raised_of]:
            for wrong in WRONG_KINDS:
                self.refused(InvalidKinds, wrong, call, 0, wrong, [])
                self.refused(InvalidKinds, wrong, call, -1, wrong, [0])
            for wrong in WRONG_SIZES:
                self.refused(InvalidSizes, wrong, call, 0, [1, 2], wrong)
                self.refused(InvalidSizes, wrong, call, None, [1, 2], wrong)
            for wrong in NO_INTEGERS + [-1, 1]:
                self.refused(InvalidRank, wrong, call, wrong, [1, 2], [])
            self.refused(InvalidRank, 0, call, 0, [1, 2], [3])
            self.refused(InvalidRank, 0, call, 0, [], [1])

    def test_limits_of_kinds(self):
        for call in [rounds_of, raised_of]:
            self.assertEqual(call(0, list(range(1, 17)), [1]), ((1,),))
            self.assertEqual(call(15, tuple(range(49, 65)), (1,)), ((64,),))
            self.assertEqual(call(0, (), ()), ())

    def test_rank_of(self):
        for call in [rank_of, raised_rank, answers_of]:
            for wrong in WRONG_KINDS:
                self.refused(InvalidKinds, wrong, call, ((1,),), wrong)
                self.refused(InvalidKinds, wrong, call, None, wrong)
            for wrong in NO_LISTS + [
                [], [(1,)], ([1],), ((1,), [3]), ((),), ((1,), ()), ((2, 1),), ((1, 1),), ((4,),), ((1,), (1,)),
                ((True,),), (("1",),), ((None,),), (1,), ("1",), ((1, (2,)),), ((1, 2, 3, 4),), ((0,),), ({},),
                ((1,), (2,), (3,), (1,)),
            ]:
                self.refused(InvalidRounds, wrong, call, wrong, [1, 2, 3])
            for rounds in [((1,),), ((1, 2, 3),), (), ((3,), (2,))]:
                self.assertIsNotNone(call(rounds, (1, 2, 3)))

    def test_an_answer_is_no_kind_of_a_further_round(self):
        self.assertEqual(rank_of(((1,), (2,)), [1, 2, 3]), 0)
        rounds = ((1,), (2,))
        for call in [raised_rank, answers_of]:
            self.refused(InvalidRounds, rounds, call, rounds, [1, 2, 3])
            self.refused(InvalidRounds, rounds, call, rounds, [1, 2])


class Kept(Case):
    """What is passed is not changed."""

    def test_arguments(self):
        kinds, sizes = [1, 2, 3, 4, 5], [2, 1]
        for at_rank, rank_at in [(rounds_of, rank_of), (raised_of, raised_rank)]:
            rounds = at_rank(3, kinds, sizes)
            self.assertEqual(rank_at(rounds, kinds), 3)
        answers_of(raised_of(3, kinds, sizes), kinds)
        many_rounds(5, sizes)
        many_raised(5, sizes)
        self.assertEqual((kinds, sizes), ([1, 2, 3, 4, 5], [2, 1]))


if __name__ == "__main__":
    unittest.main()
