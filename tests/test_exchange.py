"""Points 7 and 161 to 163: what two ends tell each other at once."""

import copy
import random
import unittest
from functools import lru_cache
from itertools import product
from math import factorial

from tests.helper import NO_INTEGERS, Case
from upforgood.errors import Handed, InvalidKind, InvalidOther, InvalidOwn, InvalidSide, InvalidValue, NotSent
from upforgood.exchange import Exchange, both, both_known
from upforgood.rows import can_tell

BESIDE_2_TO_16 = [-1, 0, 1, 17, 10 ** 20] + NO_INTEGERS
BESIDE_2_TO_8 = [-1, 0, 1, 9, 16, 10 ** 20] + NO_INTEGERS
BESIDE_SIDES = [-1, 2, 10 ** 20] + NO_INTEGERS
NOT_KNOWN = [False, 1, 0, None, "True", "", [True], (True,), {"True": True}, -1]


@lru_cache(None)
def parted(total, many, most):
    """All descending lists of so many sizes from 0 to `most` with this sum."""
    if many == 0:
        return [()] if total == 0 else []
    return [(first,) + rest for first in range(min(total, most), -1, -1) for rest in parted(total - first, many - 1, first)]


@lru_cache(None)
def greatest(total, many):
    """M of point 161; the order of the sizes does not count."""
    found = []
    for sizes in parted(total, many, total):
        number = factorial(total)
        for size in sizes:
            number //= factorial(size)
        found.append(number)
    return max(found)


def some_values(rng, number):
    return sorted({0, number - 1, rng.randrange(number)})


class Watched:
    """An exchange of which each entry is checked by point 163, and kept by what each side saw."""

    def __init__(self, case, own, other, known, values, seen=None):
        self.case = case
        self.exchange = Exchange(own, other, known)
        self.kinds = (own, other)
        self.known = known
        self.values = values
        self.handed = [False, False]
        self.said = [[], []]
        self.saw = [[], []]
        self.seen = {} if seen is None else seen
        self.given = []

    def hand(self, side):
        self.enter(side, ("handed", self.values[side]), self.exchange.hand, side, self.values[side])

    def give(self, side, kind):
        is_new = (side, kind) not in self.given
        if is_new:
            self.given.append((side, kind))
            self.enter(1 - side, ("comes", kind), self.exchange.give, side, kind)
        else:
            before = [self.look(0), self.look(1)]
            self.case.same(self.exchange.give(side, kind), [])
            self.case.same([self.look(0), self.look(1)], before)

    def look(self, side):
        exchange = self.exchange
        return [exchange.decided(side), exchange.knows(side), [kind for of, kind in exchange.under_way() if of == side]]

    def sent(self, side):
        return sorted(set(kind for of, kind in self.given + self.exchange.under_way() if of == side))

    def enter(self, side, event, call, *arguments):
        before, other = self.sent(side), self.look(1 - side)
        told = call(*arguments)
        self.handed[side] = self.handed[side] or event[0] == "handed"
        for who, say in told:
            self.case.assertEqual(who, side)
            self.says(side, say)
        sent = [kind for kind in self.sent(side) if kind not in before]
        self.case.assertTrue(all(1 <= kind <= self.kinds[side] for kind in sent))
        self.case.same([self.exchange.decided(side), self.exchange.knows(side)], [self.due(side), ("knows",) in self.said[side]])
        self.case.same(self.look(1 - side)[:2], other[:2])
        self.saw[side].append(event)
        # The same that was handed and came in the same order: the same is sent and said.
        key = (side, tuple(self.saw[side]))
        self.case.assertEqual(self.seen.setdefault(key, (sent, told)), (sent, told))

    def due(self, side):
        return self.values[1 - side] if ("decides", self.values[1 - side]) in self.said[side] else None

    def says(self, side, say):
        self.case.assertNotIn(say, self.said[side])
        if say == ("knows",):
            self.case.assertIs(self.known, True)
            self.case.assertIn(("decides", self.values[side]), self.said[1 - side])
        else:
            self.case.same(say, ("decides", self.values[1 - side]))
            self.case.assertTrue(self.handed[1 - side])
        self.said[side].append(say)

    def ends_well(self):
        if self.handed == [True, True] and self.exchange.under_way() == []:
            expected = [["decides", "knows"] if self.known is True else ["decides"]] * 2
            self.case.same([sorted(say[0] for say in said) for said in self.said], expected)
            return True
        return False

    def run(self, rng, again):
        """Hand and deliver in any order, late and, often or not, again."""
        handings = [0, 1]
        while handings or self.exchange.under_way():
            under_way = self.exchange.under_way()
            self.case.same(under_way, sorted(set(under_way)))
            if self.given and rng.random() < again:
                self.give(*rng.choice(self.given))
            elif handings and (not under_way or rng.random() < 0.3):
                self.hand(handings.pop(rng.randrange(len(handings))))
            else:
                self.give(*rng.choice(under_way))
        self.case.assertTrue(self.ends_well())


class Numbers(Case):
    def test_against_an_own_count(self):
        for own, other in product(range(2, 17), repeat=2):
            self.same(both(own, other), (greatest(own, other + 2), greatest(other, own + 2)))
            self.same(both_known(own=own, other=other), (greatest(own, other + 1), greatest(other, own + 1)))

    def test_as_much_as_each_alone(self):
        """Point 7: each could tell just so much alone, with the other one's kinds for its answers."""
        for own, other in product(range(2, 17), repeat=2):
            first, second = both(own, other)
            self.same([can_tell([first], own, other), can_tell([first + 1], own, other)], [True, False])
            self.same([can_tell([second], other, own), can_tell([second + 1], other, own)], [True, False])

    def test_wrong(self):
        for call in [both, both_known]:
            for wrong in BESIDE_2_TO_16:
                self.refused(InvalidOwn, wrong, call, wrong, -1)
                self.refused(InvalidOther, wrong, call, 2, wrong)
                self.refused(InvalidOther, wrong, call, own=16, other=wrong)

    def test_numbers_of_an_exchange(self):
        for own, other in product(range(2, 9), repeat=2):
            self.same(Exchange(own, other, True).numbers(), both_known(own, other))
            self.same(Exchange(own, other, False).numbers(), both(own, other))
        for wrong in BESIDE_2_TO_8:
            for known in [True, False, 7]:
                self.refused(InvalidOwn, wrong, Exchange, wrong, -1, known)
                self.refused(InvalidOther, wrong, Exchange, 2, wrong, known)


class Works(Case):
    def test_all_pairs(self):
        rng = random.Random(162)
        for own, other, known in product(range(2, 9), range(2, 9), [True, False]):
            numbers = Exchange(own, other, known).numbers()
            seen = {}
            for values in product(*[some_values(rng, number) for number in numbers]):
                for again in [0, 0.3]:
                    Watched(self, own, other, known, values, seen).run(rng, again)

    def test_each_value(self):
        rng = random.Random(163)
        for own, other, known in [(5, 2, False), (2, 5, True), (4, 4, False), (4, 4, True), (4, 3, False), (3, 4, True)]:
            numbers = Exchange(own, other, known).numbers()
            for values in product(*[range(number) for number in numbers]):
                Watched(self, own, other, known, values).run(rng, 0)

    def test_every_order(self):
        """All orders of handing and coming, one by one."""
        for own, other, known in product([2, 3, 5], [2, 3, 5], [True, False]):
            numbers = Exchange(own, other, known).numbers()
            for values in product(*[sorted({0, number // 2, number - 1}) for number in numbers]):
                self.go_through(Watched(self, own, other, known, values))

    def go_through(self, first):
        left = [first]
        met = set()
        ended = 0
        while left:
            watched = left.pop()
            key = repr([watched.saw, watched.exchange.under_way()])
            if key in met:
                continue
            met.add(key)
            entries = [("hand", side) for side in (0, 1) if not watched.handed[side]]
            entries += [("give",) + given for given in watched.exchange.under_way()]
            ended += int(watched.ends_well())
            for entry in entries:
                behind = copy.copy(watched)
                behind.exchange = copy.deepcopy(watched.exchange)
                behind.handed, behind.given = list(watched.handed), list(watched.given)
                behind.said, behind.saw = copy.deepcopy(watched.said), copy.deepcopy(watched.saw)
                getattr(behind, entry[0])(*entry[1:])
                left.append(behind)
        self.assertGreater(ended, 0)

    def test_no_two_values_look_alike(self):
        """What came to a side ahead of its deciding tells the value of the other one."""
        rng = random.Random(161)
        for own, other, known in [(5, 2, True), (2, 5, False), (4, 3, False), (4, 4, True), (3, 3, False)]:
            numbers = Exchange(own, other, known).numbers()
            told = {}
            for values in list(product(*[range(number) for number in numbers])) * 2:
                watched = Watched(self, own, other, known, values)
                watched.run(rng, 0)
                for side in (0, 1):
                    came = tuple(event for event in watched.saw[side] if event[0] == "comes")
                    key = (side, values[side], came)
                    self.assertEqual(told.setdefault(key, values[1 - side]), values[1 - side])

    def test_handed_once_and_nothing_more(self):
        for side in (0, 1):
            exchange = Exchange(4, 4, True)
            self.same(exchange.hand(side, 3), [])
            exchange.calm()
            self.same([exchange.decided(side), exchange.knows(0), exchange.knows(1)], [None, False, False])

    def test_calm_gives_the_first_each_time(self):
        for own, other, known in product([2, 5, 8], [2, 4, 8], [True, False]):
            numbers = Exchange(own, other, known).numbers()
            exchange, twin = Exchange(own, other, known), Exchange(own, other, known)
            for each in (exchange, twin):
                each.hand(1, numbers[1] - 1)
                each.hand(0, numbers[0] - 1)
            given = []
            while twin.under_way():
                given.append(twin.under_way()[0])
                twin.give(*given[-1])
            self.same(exchange.calm(), given)
            self.same([exchange.calm(), exchange.under_way(), exchange.decided(0), exchange.decided(1)], [[], [], numbers[1] - 1, numbers[0] - 1])
            self.same([exchange.knows(0), exchange.knows(1)], [known, known])

    def test_known_is_true_alone(self):
        for known in NOT_KNOWN:
            exchange = Exchange(own=5, other=2, known=known)
            self.same(exchange.numbers(), both(5, 2))
            self.same([exchange.hand(side=0, value=59), exchange.hand(side=1, value=1)], [[], []])
            exchange.calm()
            self.same([exchange.decided(side=0), exchange.decided(1), exchange.knows(side=0), exchange.knows(1)], [1, 59, False, False])

    def test_decides_stands_ahead_of_knows(self):
        both_at_once = 0
        for own, other in product(range(2, 9), repeat=2):
            exchange = Exchange(own, other, True)
            exchange.hand(0, 0)
            exchange.hand(1, 0)
            while exchange.under_way():
                told = exchange.give(*exchange.under_way()[0])
                words = [say[0] for _, say in told]
                self.assertIn(words, [[], ["decides"], ["knows"], ["decides", "knows"]])
                both_at_once += int(len(words) == 2)
        self.assertGreater(both_at_once, 0)


class Errors(Case):
    def unchanged(self, exchange, twin):
        """Both do the same from here on."""
        for each in (0, 1):
            self.same([exchange.decided(each), exchange.knows(each)], [twin.decided(each), twin.knows(each)])
        self.same(exchange.under_way(), twin.under_way())
        self.same(exchange.calm(), twin.calm())
        self.same([exchange.decided(0), exchange.decided(1)], [twin.decided(0), twin.decided(1)])

    def test_sides(self):
        exchange = Exchange(3, 2, True)
        exchange.hand(0, 1)
        for wrong in BESIDE_SIDES:
            self.refused(InvalidSide, wrong, exchange.hand, wrong, -1)
            self.refused(InvalidSide, wrong, exchange.give, wrong, -1)
            self.refused(InvalidSide, wrong, exchange.decided, wrong)
            self.refused(InvalidSide, wrong, exchange.knows, wrong)

    def test_handing(self):
        for known in [True, False]:
            exchange, twin = Exchange(3, 2, known), Exchange(3, 2, known)
            for wrong in [-1, 6, 10 ** 20] + NO_INTEGERS:
                self.refused(InvalidValue, wrong, exchange.hand, 0, wrong)
            for wrong in [-1, 2] + NO_INTEGERS:
                self.refused(InvalidValue, wrong, exchange.hand, 1, wrong)
            for side, value in [(0, 5), (1, 1)]:
                self.same([exchange.hand(side, value), twin.hand(side, value)], [[], []])
                for again in [value, 0, -1, None, 10 ** 9]:
                    self.refused_with(Handed, {"side": side}, exchange.hand, side, again)
            self.unchanged(exchange, twin)
            self.refused_with(Handed, {"side": 1}, exchange.hand, 1, 1)

    def test_giving(self):
        exchange, twin = Exchange(5, 2, True), Exchange(5, 2, True)
        for each in (exchange, twin):
            each.hand(0, 29)
            each.hand(1, 0)
        for wrong in [0, -1, 6, 10 ** 20] + NO_INTEGERS:
            self.refused(InvalidKind, wrong, exchange.give, 0, wrong)
        for wrong in [0, -1, 3] + NO_INTEGERS:
            self.refused(InvalidKind, wrong, exchange.give, 1, wrong)
        for side, many in [(0, 5), (1, 2)]:
            for kind in range(1, many + 1):
                if (side, kind) not in exchange.under_way():
                    self.refused_with(NotSent, {"kind": kind}, exchange.give, side, kind)
        self.unchanged(exchange, twin)

    def test_lists_that_are_changed_later(self):
        exchange, twin = Exchange(5, 3, True), Exchange(5, 3, True)
        for side in (1, 0):
            exchange.hand(side, 2).append("more")
            twin.hand(side, 2)
        exchange.under_way().clear()
        first = exchange.under_way()[0]
        exchange.give(*first).append("more")
        exchange.give(*first).append("more")
        twin.give(*first)
        exchange.calm().clear()
        twin.calm()
        self.unchanged(exchange, twin)
        exchange.calm().append("more")
        self.same(exchange.calm(), [])


if __name__ == "__main__":
    unittest.main()
