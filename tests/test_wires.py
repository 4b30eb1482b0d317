"""Points 7, 81 and 82: what rows can be told over wires, plans and least wires."""

import unittest
from functools import lru_cache
from itertools import product
from math import comb

from tests.helper import NO_INTEGERS, NO_LISTS, Case
from tests.test_rows import WRONG_ROWS, all_sizes
from upforgood.errors import InvalidRow, InvalidWires
from upforgood.wires import can_raise, leasts, most_raised, raise_fits, raise_plan

BESIDE_0_TO_24 = [-1, 25, 10 ** 20] + NO_INTEGERS
LONG_ROWS = [
    [1] * 16, [2] * 16, [1, 2] * 8, [3] * 8, [2704156], [2704157], [5000, 1, 5000], [10 ** 50], [1, 10 ** 50], [10 ** 50, 1], [2, 6, 5], [560, 2, 168],
    [100] * 4, [24, 23, 22], [1] * 15 + [9], [9] + [1] * 15, [10 ** 7], [10 ** 8, 3], [7, 1, 7, 1, 7, 1], [20, 20, 20, 20], [2] * 15, [1] * 14 + [2, 3],
]


def used_by(sizes):
    return sum(sizes) + len(sizes) - 1


def raised_by(sizes, wires):
    """The product of point 81, or 0 where the wires are not enough."""
    if used_by(sizes) > wires:
        return 0
    number = 1
    for at, size in enumerate(sizes):
        number *= comb(wires - sum(sizes[:at]) - at, size)
    return number


@lru_cache(None)
def told_by_listing(row, wires):
    """Point 7 word by word: all sizes are tried."""
    if not row:
        return True
    for sizes in all_sizes(wires):
        if raised_by(sizes, wires) >= row[0] and told_by_listing(row[1:], wires - used_by(sizes)):
            return True
    return False


@lru_cache(None)
def most_by_use(wires, used):
    """The greatest number that is told with so many of the wires."""
    if used <= 0:
        return 0
    found = [comb(wires, used)]
    for size in range(1, used - 1):
        found.append(comb(wires, size) * most_by_use(wires - size - 1, used - size - 1))
    return max(found)


@lru_cache(None)
def told_by_use(row, wires):
    if not row:
        return True
    return any(most_by_use(wires, used) >= row[0] and told_by_use(row[1:], wires - used) for used in range(1, wires + 1))


class CanRaise(Case):
    def test_against_a_listing_of_all_sizes(self):
        rows = [row for many in range(4) for row in product([1, 2, 3, 5, 8, 21], repeat=many)]
        for row in rows:
            for wires in range(8):
                self.agrees(list(row), wires, told_by_listing(row, wires))

    def test_single_numbers_against_a_listing(self):
        for number in list(range(1, 60)) + [168, 169, 560, 561, 2520, 2521]:
            for wires in range(10):
                self.agrees([number], wires, told_by_listing((number,), wires))

    def test_long_rows(self):
        for row in LONG_ROWS:
            for wires in range(25):
                self.agrees(row, wires, told_by_use(tuple(row), wires))

    def agrees(self, row, wires, expected):
        self.same(can_raise(row, wires), expected)
        self.same(can_raise(tuple(row), wires), expected)
        found = raise_plan(row, wires)
        self.same(found, raise_plan(tuple(row), wires))
        self.same(found is not None, expected)
        if expected:
            self.same(raise_fits(row, wires, found), True)
            self.assertTrue(sum(used_by(sizes) for sizes in found) <= wires)

    def test_just_used_up_and_one_too_few(self):
        self.same([can_raise([1] * 16, 16), can_raise([1] * 16, 15)], [True, False])
        self.same([can_raise([most_raised(24)], 24), can_raise([most_raised(24) + 1], 24), can_raise([most_raised(24)], 23)], [True, False, False])
        self.same([can_raise(row=[2], wires=2), raise_plan(row=[], wires=24), raise_fits(row=[], wires=0, value=())], [True, (), True])

    def test_wrong(self):
        for call in [can_raise, raise_plan, lambda row, wires: raise_fits(row, wires, ())]:
            for wrong in WRONG_ROWS:
                self.refused(InvalidRow, wrong, call, wrong, 1)
                self.refused(InvalidRow, wrong, call, wrong, -1)
            for wrong in BESIDE_0_TO_24:
                self.refused(InvalidWires, wrong, call, [2], wrong)


class RaiseFits(Case):
    def test_against_a_listing(self):
        for row in [[], [3], [8], [2, 1], [6, 1], [1, 2, 1]]:
            for wires in range(7):
                values = list(product(all_sizes(4), repeat=len(row)))
                right = [value for value in values if self.fits_word_by_word(row, wires, value)]
                for value in values:
                    self.same(raise_fits(row, wires, value), value in right)
                if wires < 5:
                    self.assertEqual(bool(right), can_raise(row, wires))

    def fits_word_by_word(self, row, wires, value):
        left = wires
        for number, sizes in zip(row, value):
            if raised_by(sizes, left) < number:
                return False
            left -= used_by(sizes)
        return True

    def test_near_misses(self):
        self.same([raise_fits([8], 4, ((1, 1),)), raise_fits([9], 4, ((1, 1),)), raise_fits([8], 3, ((1, 1),))], [True, False, False])
        self.same([raise_fits([6, 1], 3, ((2,), (1,))), raise_fits([6, 1], 4, ((2,), (1,))), raise_fits([6, 1], 4, ((2,), (2,)))], [False, True, True])
        self.same([raise_fits([6, 1], 4, ((2,), (3,))), raise_fits([6, 1], 4, ((2,), (1, 1))), raise_fits([6, 1], 5, ((2,), (1, 1)))], [False, False, True])
        self.same([raise_fits([1], 2, ((1, 1),)), raise_fits([1], 3, ((1, 1),)), raise_fits([1], 24, ((24,),)), raise_fits([1], 24, ((25,),))], [False, True, True, False])
        self.same([raise_fits((1, 1), 2, ((1,), (1,))), raise_fits([1, 1], 2, ((1,),)), raise_fits([1], 2, ((1,), (1,)))], [True, False, False])

    def test_no_plans(self):
        wrong = NO_LISTS + [
            [], [(1,)], [[1]], ([1],), (1,), ((),), ((0,),), ((-1,),), ((2, -1),), ((True,),), ((None,),), (("1",),), ((1, 0),), (((1,),),), ("1",),
            ((1,), (1,)), (), ((1,), ()), ((10 ** 60,),), ((1,) * 100,), ((1,), None), ({},),
        ]
        for value in wrong:
            self.same(raise_fits([2], 20, value), False)


class Leasts(Case):
    def test_against_a_listing(self):
        for row in [row for many in range(4) for row in product([1, 2, 3, 6, 9], repeat=many)]:
            expected = []
            for at in range(len(row) + 1):
                expected.append([wires for wires in range(25) if told_by_use(row[at:], wires)][0])
            self.same(leasts(list(row)), expected)
            self.same(leasts(row), expected)

    def test_long_rows(self):
        for row in LONG_ROWS:
            found = leasts(row)
            for at in range(len(row) + 1):
                enough = [wires for wires in range(25) if told_by_use(tuple(row[at:]), wires)]
                self.same(found[at], enough[0] if enough else None)
                self.same(enough, list(range(25 - len(enough), 25)))

    def test_none_if_24_are_not_enough(self):
        self.same(leasts([1, 10 ** 50, 1]), [None, None, 1, 0])
        self.same(leasts([most_raised(24)])[0], 24)
        self.same(leasts([most_raised(24) + 1]), [None, 0])
        self.same(leasts([1, most_raised(24)]), [None, 24, 0])

    def test_lists_are_new(self):
        row = [2, 6, 5]
        found = leasts(row=row)
        found[0] = 9
        found.append(1)
        self.same([leasts(row), row], [[7, 6, 4, 0], [2, 6, 5]])

    def test_most_raised(self):
        for wires in range(10):
            self.same(most_raised(wires), max([raised_by(sizes, wires) for sizes in all_sizes(wires)], default=0))
        for wires in range(25):
            most = most_raised(wires=wires)
            self.same(most, max([most_by_use(wires, used) for used in range(1, wires + 1)], default=0))

    def test_wrong(self):
        for wrong in WRONG_ROWS:
            self.refused(InvalidRow, wrong, leasts, wrong)
        for wrong in BESIDE_0_TO_24:
            self.refused(InvalidWires, wrong, most_raised, wrong)


if __name__ == "__main__":
    unittest.main()
