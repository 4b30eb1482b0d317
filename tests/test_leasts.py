"""Points 141 to 143: least lines, rows within bounds, and the fewest answers and kinds."""

import random
import unittest
from functools import lru_cache
from itertools import permutations, product

from tests.helper import NO_INTEGERS, NO_LISTS, Case
from tests.lots import some_pairs, some_text
from tests.test_rows import BESIDE_0_TO_16, LONG_ROWS, WRONG_ROWS, all_sizes, many_told, most_told, told_by_splits
from upforgood.errors import InvalidAnswers, InvalidEnds, InvalidLetters, InvalidMost, InvalidOther, InvalidOwn, InvalidPairs, InvalidRow, InvalidText
from upforgood.keeping import can_keep
from upforgood.leasts import can_tell_within, fewest_answers, fewest_kinds, least_pairs, least_wires
from upforgood.rows import can_tell
from upforgood.texts import own_row
from upforgood.trees import Tree
from upforgood.wires import leasts, most_raised

SHORT_ROWS = [[], [1], [3], [6], [2, 1], [1, 2], [4, 4], [2, 2, 2], [3, 1, 2], [20], [6, 1, 1], [1, 1, 1, 1], [24, 2]]
TEXT = (("ask", 1, (2, 3), 2, (3, 2), False), ("tell", 1, (2, 3), 4, 3, True))


@lru_cache(None)
def all_plans(row, own, other):
    """All plans that fit, as listed by point 72."""
    if not row:
        return [()]
    found = []
    for sizes in all_sizes(own):
        if len(sizes) - 1 <= other and many_told(own, sizes) >= row[0]:
            found += [(sizes,) + rest for rest in all_plans(row[1:], other - len(sizes) + 1, own - sum(sizes))]
    return found


@lru_cache(None)
def within(row, own, other, answers, letters):
    """The same for long rows, of sizes with the same sum and number by those that tell most."""
    if not row:
        return True
    for rest in range(max(0, own - letters), own):
        for many in range(min(other, answers, own - rest - 1) + 1):
            if most_told(own, rest, many + 1) >= row[0] and within(row[1:], other - many, rest, answers, letters):
                return True
    return False


@lru_cache(None)
def fewest(row, own, other, counts_letters):
    """The fewest answers, or the fewest kinds of both ends, or None."""
    if not row:
        return 0
    best = None
    for rest in range(own):
        for many in range(min(other, own - rest - 1) + 1):
            if most_told(own, rest, many + 1) >= row[0]:
                further = fewest(row[1:], other - many, rest, counts_letters)
                if further is not None:
                    cost = further + many + (own - rest if counts_letters else 0)
                    best = cost if best is None else min(best, cost)
                break
    return best


class LeastPairs(Case):
    def test_against_can_tell(self):
        for row in SHORT_ROWS + LONG_ROWS[:8]:
            for most in [0, 1, 3, 6, 16]:
                told = {pair: told_by_splits(tuple(row), pair[0], pair[1]) for pair in product(range(most + 1), repeat=2)}
                expected = []
                for own, other in sorted(told):
                    if told[own, other] and not told.get((own - 1, other), False) and not told.get((own, other - 1), False):
                        expected.append((own, other))
                self.same(least_pairs(row, most), expected)
                self.same(least_pairs(tuple(row), most=most), expected)

    def test_new_and_by_name(self):
        found = least_pairs(row=[6, 1], most=6)
        found.append(1)
        self.same(least_pairs([6, 1], 6), [(3, 2), (4, 1)])
        self.assertTrue(all(can_tell([6, 1], own, other) for own, other in least_pairs([6, 1], 6)))

    def test_wrong(self):
        for wrong in WRONG_ROWS:
            self.refused(InvalidRow, wrong, least_pairs, wrong, 5)
            self.refused(InvalidRow, wrong, least_pairs, wrong, -1)
        for wrong in BESIDE_0_TO_16:
            self.refused(InvalidMost, wrong, least_pairs, [2], wrong)


class LeastWires(Case):
    def test_against_can_keep(self):
        rng = random.Random(141)
        found = 0
        while found < 60:
            ends = rng.randint(2, 5)
            pairs = some_pairs(rng, ends)
            text = some_text(rng, ends, 3, 3)
            rows = [leasts([number for _, number in own_row(Tree(ends, [pair + (("wires", 0),) for pair in pairs]), text, *pair)])[0] for pair in pairs]
            too_many = [25 if count is None else count for count in rows if count is None or count > 10]
            order = rng.sample(pairs, len(pairs))
            if too_many:
                self.too_many(too_many[0], least_wires, ends, order, text)
                continue
            found += 1
            least = least_wires(ends, order, text)
            self.same(least_wires(ends=ends, pairs=tuple(order), text=text), least)
            self.same(least, tuple(rows))
            self.least(ends, pairs, text, least)

    def least(self, ends, pairs, text, least):
        self.assertTrue(can_keep(self.wired(ends, pairs, least), text))
        for at, count in enumerate(least):
            if count > 0:
                more = [10] * len(least)
                more[at] = count - 1
                self.assertFalse(can_keep(self.wired(ends, pairs, more), text))

    def wired(self, ends, pairs, wires):
        return Tree(ends, [(u, w, ("wires", many)) for (u, w), many in zip(pairs, wires)])

    def test_any_order_of_the_pairs(self):
        for pairs in permutations([(2, 3), (1, 2), (3, 4)]):
            text = (("tell", 1, (2, 3), 4, 0, False),)
            self.same([least_wires(4, list(pairs), text), least_wires(4, pairs, text)], [(4, 4, 0), (4, 4, 0)])

    def test_too_many(self):
        star = [(1, 2), (1, 3), (1, 4)]
        for wires in range(11, 24):
            greatest = most_raised(wires)
            if greatest <= 10 ** 12:
                self.too_many(wires, least_wires, 2, [(1, 2)], (("tell", 1, (2,), greatest, 0, False),))
                self.too_many(wires, least_wires, 4, star[::-1], (("deal", 1, (2, 3, 4), (1, greatest, 10 ** 12), 0, False),))
                self.too_many(wires + 1, least_wires, 2, [(1, 2)], (("tell", 1, (2,), greatest, 0, True),))
        for text in [(("ask", 1, (2,), 10 ** 12, (10 ** 12,), False),), (("tell", 1, (2,), 10 ** 12, 1, False),) * 8]:
            self.too_many(25, least_wires, 2, [(1, 2)], text)
        self.too_many(25, least_wires, 3, [(2, 3), (1, 2)], (("deal", 1, (2, 3), (2, 10 ** 12), 1, False),) * 2)
        self.same(least_wires(2, [(1, 2)], (("tell", 1, (2,), most_raised(10), 0, False),)), (10,))
        self.too_many(11, least_wires, 2, [(1, 2)], (("tell", 1, (2,), most_raised(10) + 1, 0, False),))

    def test_order_of_errors(self):
        for wrong in [0, 1, 6, -1, 10 ** 20] + NO_INTEGERS:
            self.refused(InvalidEnds, wrong, least_wires, wrong, None, None)
        right = [(1, 2), (2, 3)]
        for wrong in NO_LISTS + [
            [], [(1, 2)], [(1, 2), (1, 2)], [(2, 1), (2, 3)], [(1, 2), (2, 4)], [(1, 2), [2, 3]], [(1, 2), (2, 3), (1, 3)], [(1, 2), (2, 2)], [1, 2], [(1, 2), 3],
            [(1, 2), (2, 3, ("wires", 1))], [(1, 2), (2,)], [(1, 2), (2, True)], [(1, 2), ()], [(0, 1), (1, 2)], [(1, 2), ("2", 3)], [(1, 2), None],
        ]:
            self.refused(InvalidPairs, wrong, least_wires, 3, wrong, None)
        for wrong in [(), None, list(TEXT), TEXT[1:] + TEXT, (("tell", 1, (4,), 2, 0, False),)]:
            self.refused(InvalidText, wrong, least_wires, 3, right, wrong)
        self.same(least_wires(3, right, TEXT), (7, 6))


class Within(Case):
    def test_against_a_listing_of_all_plans(self):
        for row in SHORT_ROWS[:9]:
            for own, other in product(range(5), repeat=2):
                plans = all_plans(tuple(row), own, other)
                for answers, letters in product([0, 1, 2, 5], [0, 1, 2, 3, 16]):
                    expected = any(all(len(sizes) - 1 <= answers and sum(sizes) <= letters for sizes in plan) for plan in plans)
                    self.same(can_tell_within(row, own, other, answers, letters), expected)
                self.same(fewest_answers(row, own, other), min([sum(len(sizes) - 1 for sizes in plan) for plan in plans], default=None))
                kinds = [sum(sum(sizes) + len(sizes) - 1 for sizes in plan) for plan in plans]
                self.same(fewest_kinds(row, own, other), min(kinds, default=None))

    def test_long_rows(self):
        for row in SHORT_ROWS + LONG_ROWS:
            for own, other in [(16, 16), (16, 0), (0, 16), (8, 8), (12, 5), (9, 10)]:
                for answers, letters in [(0, 16), (16, 16), (1, 3), (2, 2), (3, 8), (16, 1)]:
                    expected = within(tuple(row), own, other, answers, letters)
                    self.same(can_tell_within(tuple(row), own, other, answers, letters), expected)
                self.same(can_tell_within(row, own, other, 16, 16), told_by_splits(tuple(row), own, other))
                self.same(fewest_answers(row, own, other), fewest(tuple(row), own, other, False))
                self.same(fewest_kinds(tuple(row), own, other), fewest(tuple(row), own, other, True))

    def test_fewest_answers_and_fewest_kinds_by_different_plans(self):
        self.same([fewest_answers([60], 6, 5), fewest_kinds([60], 6, 5)], [1, 4])
        self.same([fewest_answers(row=[], own=0, other=0), fewest_kinds(row=[], own=0, other=0)], [0, 0])
        self.same([fewest_answers([20], 6, 2), fewest_kinds([20], 6, 2)], [0, 3])

    def test_wrong(self):
        for call in [fewest_answers, fewest_kinds, lambda row, own, other: can_tell_within(row, own, other, -1, -1)]:
            for wrong in WRONG_ROWS:
                self.refused(InvalidRow, wrong, call, wrong, -1, -1)
            for wrong in BESIDE_0_TO_16:
                self.refused(InvalidOwn, wrong, call, [2], wrong, -1)
                self.refused(InvalidOther, wrong, call, [2], 1, wrong)
        for wrong in BESIDE_0_TO_16:
            self.refused(InvalidAnswers, wrong, can_tell_within, [2], 1, 1, wrong, -1)
            self.refused(InvalidLetters, wrong, can_tell_within, [2], 1, 1, 16, wrong)
        self.same(can_tell_within(row=[2], own=2, other=0, answers=0, letters=1), True)



if __name__ == "__main__":
    unittest.main()
