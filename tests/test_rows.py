"""Points 7 and 71 to 73: what rows can be told over letters, plans and stairs."""

import unittest
from functools import lru_cache
from itertools import product
from math import factorial

from tests.helper import NO_INTEGERS, NO_LISTS, Case
from upforgood.errors import InvalidMost, InvalidOther, InvalidOwn, InvalidPlan, InvalidRow
from upforgood.rows import can_tell, fits, left_by, plan, stairs, stairs_hold

BESIDE_0_TO_16 = [-1, 17, 10 ** 20] + NO_INTEGERS
WRONG_ROWS = NO_LISTS + [
    [0], [-1], [1, 0], [10 ** 50 + 1], [1] * 17, (2,) * 17, [True], [2, False], [None], ["2"], [[2]], [(2,)], [2, {}],
]
LONG_ROWS = [
    [2] * 16, [1] * 16, [3, 1] * 8, [1, 2] * 8, [16] * 3, [10 ** 9], [10 ** 12, 2], [24, 24, 24], [100, 1, 100, 1], [2, 1, 1, 1] * 4,
    [20922789888000], [20922789888001], [10 ** 50], [2, 2, 2, 2, 2, 10 ** 4], [5, 4, 3, 2, 1], [1, 1, 1, 7, 7], [10 ** 50, 1], [1, 10 ** 50],
    [10 ** 6, 10 ** 3], [10 ** 3, 10 ** 6], [12, 11, 2, 30], [2] * 15 + [17], [8071, 3],
]


@lru_cache(None)
def all_sizes(most):
    """All tuples of integers from 1 on with a sum of at most so much, but the empty one."""
    found = []
    for first in range(1, most + 1):
        found.append((first,))
        found += [(first,) + rest for rest in all_sizes(most - first)]
    return tuple(found)


def many_told(kinds, sizes):
    result = factorial(kinds)
    for part in sizes + (kinds - sum(sizes),):
        result //= factorial(part)
    return result


def told_by_listing(row, own, other):
    """Point 7 word by word: all sizes are tried."""
    if not row:
        return True
    for sizes in all_sizes(own):
        answers = len(sizes) - 1
        if answers <= other and many_told(own, sizes) >= row[0]:
            if told_by_listing(row[1:], other - answers, own - sum(sizes)):
                return True
    return False


@lru_cache(None)
def splits(total, many, most):
    """All descending tuples of so many integers from 1 to `most` with this sum."""
    if many == 0:
        return [()] if total == 0 else []
    found = []
    for first in range(min(total, most), 0, -1):
        found += [(first,) + rest for rest in splits(total - first, many - 1, first)]
    return found


@lru_cache(None)
def most_told(kinds, rest, many):
    return max([many_told(kinds, sizes) for sizes in splits(kinds - rest, many, kinds)], default=0)


@lru_cache(None)
def told_by_splits(row, own, other):
    """The same for long rows: of all sizes with the same sum and number only those that tell most."""
    if not row:
        return True
    for rest in range(own):
        for answers in range(min(other, own - rest - 1) + 1):
            if most_told(own, rest, answers + 1) >= row[0] and told_by_splits(row[1:], other - answers, rest):
                return True
    return False


class CanTell(Case):
    def test_against_a_listing_of_all_sizes(self):
        rows = [list(row) for many in range(4) for row in product([1, 2, 3, 4, 7, 13], repeat=many)]
        for row in rows:
            for own, other in product(range(5), repeat=2):
                expected = told_by_listing(row, own, other)
                self.same(can_tell(row, own, other), expected)
                self.plans(row, own, other, expected)

    def test_single_numbers_against_a_listing(self):
        for number in list(range(1, 40)) + [60, 61, 90, 91, 120, 121, 180, 181, 360, 361, 720, 721]:
            for own, other in product(range(7), repeat=2):
                self.same(can_tell([number], own, other), told_by_listing([number], own, other))

    def test_long_rows(self):
        for row in LONG_ROWS:
            for own, other in [(0, 0), (16, 16), (16, 0), (0, 16), (16, 15), (15, 16), (8, 8), (16, 4), (5, 12), (10, 9), (1, 1)]:
                expected = told_by_splits(tuple(row), own, other)
                self.same(can_tell(row, own, other), expected)
                self.plans(row, own, other, expected)

    def plans(self, row, own, other, expected):
        found = plan(row, own, other)
        self.same(found, plan(tuple(row), own, other))
        self.same(found is not None, expected)
        if expected:
            self.same(fits(row, own, other, found), True)
            left = left_by(found, own, other)
            self.assertTrue(min(left) >= 0)

    def test_edges(self):
        self.same([can_tell([], 0, 0), can_tell([1], 0, 16), can_tell([1], 1, 0), can_tell([], 16, 16)], [True, False, True, True])
        self.same([can_tell([20922789888000], 16, 14), can_tell([20922789888000], 16, 13)], [True, False])
        self.same([can_tell([20922789888001], 16, 16), can_tell([10 ** 50], 16, 16)], [False, False])
        self.same([can_tell(row=[1] * 16, own=8, other=8), can_tell([1] * 16, 8, 7), can_tell([1] * 16, 7, 8)], [True, False, False])
        self.same([plan(row=[1], own=1, other=0), plan([], 0, 0), plan([], 16, 16)], [((1,),), (), ()])

    def test_a_bare_signal_costs_a_kind(self):
        self.same([can_tell([1, 1, 1], 2, 1), can_tell([1, 1, 1], 1, 1), can_tell([1, 1, 1], 2, 0)], [True, False, False])

    def test_wrong(self):
        for call in [can_tell, plan, lambda row, own, other: fits(row, own, other, ())]:
            for wrong in WRONG_ROWS:
                self.refused(InvalidRow, wrong, call, wrong, 1, 1)
                self.refused(InvalidRow, wrong, call, wrong, -1, None)
            for wrong in BESIDE_0_TO_16:
                self.refused(InvalidOwn, wrong, call, [2], wrong, 1)
                self.refused(InvalidOwn, wrong, call, [2], wrong, 17)
                self.refused(InvalidOther, wrong, call, [2], 1, wrong)

    def test_the_greatest_number(self):
        row = [10 ** 50]
        self.same([can_tell(row, 1, 1), row], [False, [10 ** 50]])
        self.same(can_tell((1,) * 16, 16, 16), True)


class Fits(Case):
    def test_against_a_listing(self):
        for row in [[], [3], [2, 1], [1, 2, 1], [6, 2]]:
            for own, other in product(range(4), repeat=2):
                values = list(product(all_sizes(3), repeat=len(row)))
                right = [value for value in values if self.fits_word_by_word(row, own, other, value)]
                for value in values:
                    self.same(fits(row, own, other, value), value in right)
                self.assertEqual(bool(right), can_tell(row, own, other))

    def fits_word_by_word(self, row, own, other, value):
        left = [own, other]
        for at, number in enumerate(row):
            sizes = value[at]
            before = left[at % 2]
            left[at % 2] -= sum(sizes)
            left[1 - at % 2] -= len(sizes) - 1
            if min(left) < 0 or many_told(before, sizes) < number:
                return False
        return True

    def test_no_plans(self):
        wrong = NO_LISTS + [
            [], [(1,)], [[1]], ([1],), (1,), ((),), ((0,),), ((-1,),), ((2, -1),), ((True,),), ((None,),), (("1",),), ((1, 0),), (((1,),),), ("1",),
            ((1,), (1,)), (), ((1,), ()), ((10 ** 60,),), ((1,) * 100,), ((1,), None), ({},),
        ]
        for value in wrong:
            self.same(fits([2], 3, 3, value), False)
        self.same([fits([2], 3, 3, ((1,),)), fits(row=[], own=0, other=0, value=())], [True, True])

    def test_a_plan_of_another_row(self):
        self.same([fits([3, 1], 3, 1, ((1,),)), fits([3], 3, 1, ((1,), (1,))), fits([], 3, 1, ((1,),))], [False, False, False])
        self.same([fits((3, 1), 3, 1, ((1,), (1,))), fits([4, 1], 3, 1, ((1,), (1,)))], [True, False])

    def test_more_kinds_than_there_are(self):
        self.same([fits([1], 2, 0, ((2,),)), fits([1], 2, 0, ((3,),)), fits([1], 2, 1, ((1, 1),)), fits([1], 2, 0, ((1, 1),))], [True, False, True, False])


class LeftBy(Case):
    def test_word_by_word(self):
        for value in [()] + [sizes for many in (1, 2, 3) for sizes in product(all_sizes(3), repeat=many)]:
            for own, other in [(0, 0), (3, 2), (6, 4), (16, 16)]:
                left = [own, other]
                for at, sizes in enumerate(value):
                    left[at % 2] -= sum(sizes)
                    left[1 - at % 2] -= len(sizes) - 1
                if min(left) < 0:
                    self.refused(InvalidPlan, value, left_by, value, own, other)
                else:
                    self.same(left_by(value, own, other), tuple(left))

    def test_how_many_numbers(self):
        value = ((1,),) * 16
        self.same(left_by(value=value, own=16, other=16), (8, 8))
        longer = ((1,),) * 17
        self.refused(InvalidPlan, longer, left_by, longer, 16, 16)

    def test_wrong(self):
        for wrong in NO_LISTS + [
            [], [(1,)], ([1],), ((),), ((0,),), ((True,),), ((1,), [1]), ((1,), ()), ((17,),), ((1,) * 18,), ((1,), (17,)), ((-1,),), ((2, -1),), (1,), ("1",),
        ]:
            self.refused(InvalidPlan, wrong, left_by, wrong, 16, 16)
        for wrong in BESIDE_0_TO_16:
            self.refused(InvalidOwn, wrong, left_by, (), wrong, 1)
            self.refused(InvalidOwn, wrong, left_by, None, wrong, -1)
            self.refused(InvalidOther, wrong, left_by, (), 1, wrong)
            self.refused(InvalidOther, wrong, left_by, None, 1, wrong)


class Stairs(Case):
    def listing(self, row, most):
        expected = []
        for at in range(len(row) + 1):
            stair = []
            for kinds in range(most + 1):
                found = [least for least in range(most + 1) if told_by_splits(tuple(row[at:]), kinds, least)]
                stair.append(found[0] if found else None)
            expected.append(stair)
        return expected

    def test_short_rows(self):
        for row in [[], [1], [5], [2, 2], [6, 1, 2], [3, 1, 2], [1, 1, 1], [4, 4]]:
            for most in range(7):
                expected = self.listing(row, most)
                self.same(stairs(row, most), expected)
                self.same(stairs(tuple(row), most), expected)
                self.same(stairs_hold(row, most, expected), True)

    def test_long_rows(self):
        for row in LONG_ROWS[:12]:
            for most in [8, 16]:
                found = stairs(row, most)
                self.same(found, self.listing(row, most))
                for own, other in product([0, 3, most - 1, most], repeat=2):
                    least = found[0][own]
                    self.same(can_tell(row, own, other), least is not None and least <= other)

    def test_form(self):
        self.same([stairs([], 0), stairs(row=[], most=2), stairs([1], 0)], [[[0]], [[0, 0, 0]], [[None], [0]]])

    def test_lists_are_new(self):
        found = stairs([2, 2], 3)
        found[0][0] = 5
        found[2].append(5)
        found.append([])
        self.same(stairs([2, 2], 3), [[None, None, 2, 2], [None, None, 0, 0], [0, 0, 0, 0]])
        self.assertEqual(len({id(stair) for stair in stairs([2, 2, 2, 2], 3)}), 5)

    def test_stairs_hold(self):
        row, most = [2, 2], 3
        right = stairs(row, most)
        self.same(stairs_hold(row=row, most=most, value=right), True)
        self.same(stairs_hold(row, most, tuple([tuple(stair) for stair in right])), True)
        self.same(stairs_hold(row, most, (right[0], tuple(right[1]), right[2])), True)
        for at in range(3):
            for kinds in range(4):
                for other in [0, 1, 2, 3, 4, None, False, True, "0", [0], (), {}, -1]:
                    value = [list(stair) for stair in right]
                    value[at][kinds] = other
                    self.same(stairs_hold(row, most, value), repr(value) == repr(right))
        for value in NO_LISTS + [
            [], right[:2], right[1:], right + [[0, 0, 0, 0]], [stair[:3] for stair in right], [stair + [0] for stair in right], [right],
            [None, None, None], ["", "", ""], [{}, {}, {}], right[0],
        ]:
            self.same(stairs_hold(row, most, value), False)

    def test_wrong(self):
        for call in [stairs, lambda row, most: stairs_hold(row, most, [])]:
            for wrong in WRONG_ROWS:
                self.refused(InvalidRow, wrong, call, wrong, 1)
                self.refused(InvalidRow, wrong, call, wrong, -1)
            for wrong in BESIDE_0_TO_16:
                self.refused(InvalidMost, wrong, call, [2], wrong)

    def test_what_is_passed_is_not_changed(self):
        row, value = [3, 1, 2], [[0], [0]]
        stairs(row, 5)
        stairs_hold(row, 5, value)
        plan(row, 5, 5)
        self.same([row, value], [[3, 1, 2], [[0], [0]]])


if __name__ == "__main__":
    unittest.main()
