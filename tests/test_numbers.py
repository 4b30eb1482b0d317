"""Points 22 and 23: factorials, choices, arrangements, even parts."""

import unittest
from itertools import permutations

from tests.helper import NO_INTEGERS, NO_LISTS, Case
from upforgood.errors import InvalidMany, InvalidNumber, InvalidParts, InvalidRest
from upforgood.numbers import arrangements, choose, even_parts, factorial, most_arranged

BESIDE_0_TO_64 = [-1, 65, -10 ** 30, 10 ** 30] + NO_INTEGERS
BESIDE_1_TO_64 = [0] + BESIDE_0_TO_64


def parts_of(total, many, low):
    """All tuples of so many integers from low on with this sum."""
    if many == 0:
        return [()] if total == 0 else []
    found = []
    for first in range(low, total + 1):
        found += [(first,) + rest for rest in parts_of(total - first, many - 1, low)]
    return found


class Factorials(Case):
    def test_small(self):
        self.same([factorial(number) for number in range(8)], [1, 1, 2, 6, 24, 120, 720, 5040])

    def test_each_from_the_one_ahead(self):
        for number in range(1, 65):
            self.assertEqual(factorial(number), number * factorial(number - 1))

    def test_limits(self):
        self.assertEqual(len(str(factorial(number=64))), 90)
        for wrong in BESIDE_0_TO_64:
            self.refused(InvalidNumber, wrong, factorial, wrong)


class Choices(Case):
    def test_against_factorials(self):
        for number in range(65):
            for many in range(number + 1):
                expected = factorial(number) // (factorial(many) * factorial(number - many))
                self.assertEqual(choose(number, many), expected)

    def test_more_than_there_are(self):
        self.same([choose(0, 1), choose(3, 4), choose(63, 64), choose(0, 64)], [0, 0, 0, 0])

    def test_edges(self):
        self.same([choose(0, 0), choose(64, 0), choose(64, 64), choose(number=64, many=63)], [1, 1, 1, 64])

    def test_wrong(self):
        for wrong in BESIDE_0_TO_64:
            self.refused(InvalidNumber, wrong, choose, wrong, 2)
            self.refused(InvalidMany, wrong, choose, 2, wrong)
            self.refused(InvalidNumber, wrong, choose, wrong, -1)


class Arrangements(Case):
    def test_against_a_listing(self):
        for parts in [[1], [2, 1], [1, 1, 1], [3, 2], [2, 2, 2], [0, 3], [4, 1, 0, 1]]:
            things = [at for at, part in enumerate(parts) for _ in range(part)]
            self.assertEqual(arrangements(parts), len(set(permutations(things))))

    def test_edges(self):
        self.same([arrangements([]), arrangements(()), arrangements([0]), arrangements([0] * 100)], [1, 1, 1, 1])
        self.assertEqual(arrangements([1] * 64), factorial(64))
        self.assertEqual(arrangements(parts=(64, 0)), 1)
        self.assertEqual(arrangements((60, 4)), choose(64, 4))

    def test_wrong(self):
        for wrong in NO_LISTS + [[65], [64, 1], (1,) * 65, [-1], [-1, 2], [66, -2], [[1]], [1, (1,)], ["1"]]:
            self.refused(InvalidParts, wrong, arrangements, wrong)
        for wrong in NO_INTEGERS:
            parts = [1, wrong]
            self.refused(InvalidParts, parts, arrangements, parts)

    def test_nothing_is_changed(self):
        parts = [3, 1, 2]
        self.same([arrangements(parts), parts], [60, [3, 1, 2]])


class EvenParts(Case):
    def test_all(self):
        for total in range(65):
            for many in range(1, 65):
                parts = even_parts(total, many)
                self.assertIs(type(parts), tuple)
                self.assertEqual((len(parts), sum(parts)), (many, total))
                self.assertEqual(list(parts), sorted(parts, reverse=True))
                self.assertLessEqual(parts[0] - parts[-1], 1)

    def test_edges(self):
        self.same([even_parts(64, 1), even_parts(64, 64), even_parts(total=0, many=2)], [(64,), (1,) * 64, (0, 0)])

    def test_wrong(self):
        for wrong in BESIDE_0_TO_64:
            self.refused(InvalidNumber, wrong, even_parts, wrong, 1)
            self.refused(InvalidNumber, wrong, even_parts, wrong, 0)
        for wrong in BESIDE_1_TO_64:
            self.refused(InvalidMany, wrong, even_parts, 1, wrong)


class MostArranged(Case):
    def test_against_all_parts(self):
        for total in range(10):
            for rounds in range(1, 11):
                for rest in range(11):
                    left = total - rest
                    all_parts = parts_of(left, rounds, 1) if left >= 0 else []
                    expected = max([arrangements(parts + (rest,)) for parts in all_parts], default=0)
                    self.assertEqual(most_arranged(total, rounds, rest), expected)

    def test_edges(self):
        self.same([most_arranged(0, 1, 0), most_arranged(64, 1, 63), most_arranged(64, 1, 64)], [0, 64, 0])
        self.assertEqual(most_arranged(64, 64, 0), factorial(64))
        self.assertEqual(most_arranged(total=5, rounds=2, rest=0), 10)

    def test_wrong(self):
        for wrong in BESIDE_0_TO_64:
            self.refused(InvalidNumber, wrong, most_arranged, wrong, 1, 1)
            self.refused(InvalidNumber, wrong, most_arranged, wrong, 0, -1)
            self.refused(InvalidRest, wrong, most_arranged, 4, 1, wrong)
        for wrong in BESIDE_1_TO_64:
            self.refused(InvalidMany, wrong, most_arranged, 4, wrong, 1)
            self.refused(InvalidMany, wrong, most_arranged, 4, wrong, 65)


if __name__ == "__main__":
    unittest.main()
