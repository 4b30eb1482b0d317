"""Points 151 to 153: how many messages lines can serve, and a service at work."""

import random
import unittest
from functools import lru_cache
from itertools import product

from tests.helper import NO_INTEGERS, Case
from tests.lots import all_pairs, some_pairs
from tests.test_rows import BESIDE_0_TO_16, all_sizes, many_told, most_told
from tests.test_wires import BESIDE_0_TO_24, raised_by, told_by_use, used_by
from upforgood.errors import InvalidEnd, InvalidMost, InvalidNumber, InvalidOther, InvalidOwn, InvalidTimes, InvalidValue, InvalidWires, NoLine, NoService, NoTurn, NotSent
from upforgood.servers import Service
from upforgood.service import can_serve, can_serve_raised, most_served
from upforgood.trees import Tree

WRONG_VALUES = [0, -1, 10 ** 12 + 1, 10 ** 20] + NO_INTEGERS
BESIDE_0_TO_8 = [-1, 9, 10 ** 20] + NO_INTEGERS


@lru_cache(None)
def served_by_listing(value, times, first, second):
    """Point 151 word by word: all sizes are tried."""
    if times == 0:
        return True
    return all(first_by_listing(value, times, own, other) for own, other in [(first, second), (second, first)])


def first_by_listing(value, times, own, other):
    for sizes in all_sizes(own):
        left = other - len(sizes)
        if left >= 0 and many_told(own, sizes) >= value and served_by_listing(value, times - 1, own - sum(sizes), left):
            return True
    return False


@lru_cache(None)
def served_by_splits(value, times, first, second):
    """The same for many kinds: of sizes with the same sum and number only those that tell most."""
    if times == 0:
        return True
    for own, other in [(first, second), (second, first)]:
        ways = [(rest, many) for rest in range(own) for many in range(1, min(other, own - rest) + 1) if most_told(own, rest, many) >= value]
        if not any(served_by_splits(value, times - 1, rest, other - many) for rest, many in ways):
            return False
    return True


def raised_by_listing(value, times, wires):
    """The row that has, so many times, the value and 1."""
    if times == 0:
        return True
    for sizes in all_sizes(wires):
        left = wires - used_by(sizes) - 1
        if left >= 0 and raised_by(sizes, wires) >= value and raised_by_listing(value, times - 1, left):
            return True
    return False


class Serves(Case):
    def test_against_a_listing_of_all_sizes(self):
        for value in [1, 2, 3, 4, 6, 7]:
            for times, first, second in product(range(4), range(6), range(6)):
                self.same(can_serve(value, times, first, second), served_by_listing(value, times, first, second))

    def test_many_kinds(self):
        for value in [1, 2, 3, 10, 100, 10 ** 6, 10 ** 12]:
            for times in [0, 1, 2, 5, 8]:
                for first, second in [(0, 0), (16, 16), (16, 15), (8, 8), (8, 16), (12, 9), (7, 8), (16, 1), (1, 16)]:
                    self.same(can_serve(value, times, first, second), served_by_splits(value, times, first, second))

    def test_on_wires(self):
        for value in [1, 2, 3, 5, 8, 9]:
            for times, wires in product(range(4), range(8)):
                self.same(can_serve_raised(value, times, wires), raised_by_listing(value, times, wires))
        for value in [1, 2, 20, 10 ** 6, 10 ** 12]:
            for times, wires in product([0, 1, 3, 8], range(0, 25, 3)):
                self.same(can_serve_raised(value, times, wires), told_by_use((value, 1) * times, wires))

    def test_edges(self):
        self.same([can_serve(1, 8, 16, 16), can_serve(1, 8, 8, 8), can_serve(1, 8, 8, 7), can_serve(1, 8, 7, 16)], [True, True, False, False])
        self.same([can_serve(value=10 ** 12, times=0, first=0, second=0), can_serve_raised(value=10 ** 12, times=0, wires=0)], [True, True])
        self.same([can_serve_raised(1, 8, 16), can_serve_raised(1, 8, 15), can_serve_raised(1, 8, 24)], [True, False, True])

    def test_wrong(self):
        for wrong in WRONG_VALUES:
            self.refused(InvalidValue, wrong, can_serve, wrong, -1, -1, -1)
            self.refused(InvalidValue, wrong, can_serve_raised, wrong, -1, -1)
            self.refused(InvalidValue, wrong, most_served, Tree(2, [(1, 2, ("wires", 1))]), wrong, -1)
        for wrong in BESIDE_0_TO_8:
            self.refused(InvalidTimes, wrong, can_serve, 1, wrong, -1, -1)
            self.refused(InvalidTimes, wrong, can_serve_raised, 1, wrong, -1)
            self.refused(InvalidMost, wrong, most_served, Tree(2, [(1, 2, ("wires", 1))]), 1, wrong)
        for wrong in BESIDE_0_TO_16:
            self.refused(InvalidOwn, wrong, can_serve, 1, 0, wrong, -1)
            self.refused(InvalidOther, wrong, can_serve, 1, 0, 0, wrong)
        for wrong in BESIDE_0_TO_24:
            self.refused(InvalidWires, wrong, can_serve_raised, 1, 0, wrong)

    def test_most_served(self):
        rng = random.Random(151)
        for _ in range(150):
            ends = rng.randint(2, 5)
            tree = some_lines(rng, ends, 0)
            value = rng.choice([1, 2, 3, 8])
            counts = []
            for _, _, spec in tree.lines:
                told = [self.line_serves(spec, value, times) for times in range(9)]
                self.assertEqual(told, sorted(told, reverse=True))
                counts.append(sum(told) - 1)
            for most in range(9):
                self.same(most_served(tree=tree, value=value, most=most), min(counts + [most]))

    def line_serves(self, spec, value, times):
        if spec[0] == "wires":
            return raised_by_listing(value, times, spec[1])
        return served_by_splits(value, times, spec[1], spec[2])


def some_lines(rng, ends, fewest, pairs=None):
    lines = []
    for u, w in pairs or some_pairs(rng, ends):
        letters = ("letters", rng.randint(fewest, 8), rng.randint(fewest, 8))
        lines.append((u, w, rng.choice([letters, ("wires", rng.randint(fewest, 10))])))
    return Tree(ends, lines)


def can_go_on(spec, value, times, left):
    if spec[0] == "wires":
        return can_serve_raised(value, times, left[0])
    return can_serve(value, times, left[0], left[1])


class Works(Case):
    def serve(self, rng, tree, value, times, service):
        for at in range(times):
            self.same([service.free(), service.count(), service.under_way()], [True, at, []])
            for u, w, spec in tree.lines:
                self.same(service.left(u, w), service.left(w, u))
                self.assertTrue(can_go_on(spec, value, times - at, service.left(u, w)))
            speaker, number = rng.randint(1, tree.ends), rng.choice([0, value - 1, rng.randrange(value)])
            before = [service.decided(end) for end in range(1, tree.ends + 1)]
            said = service.hand(speaker, number)
            self.same([said, service.free()], [[], False])
            self.deliver(rng, service, said)
            others = [end for end in range(1, tree.ends + 1) if end != speaker]
            self.assertEqual(sorted(said[:-1]), [(end, ("decides", number)) for end in others])
            self.same(said[-1:], [(speaker, ("done",))])
            for end in range(1, tree.ends + 1):
                self.same(service.decided(end), before[end - 1] + ([(at, number)] if end != speaker else []))
        self.same([service.free(), service.count(), service.under_way()], [False, times, []])
        self.refused_with(NoTurn, {}, service.hand, 1, 0)

    def deliver(self, rng, service, said):
        given = []
        while service.under_way():
            given.append(rng.choice(service.under_way()))
            said += service.give(*given[-1])
            if rng.random() < 0.2:
                self.same(service.give(*rng.choice(given)), [])

    def test_as_many_as_can_be_served(self):
        rng = random.Random(152)
        served = [0] * 9
        for _ in range(250):
            ends = rng.randint(2, 5)
            tree = some_lines(rng, ends, 3)
            value = rng.choice([1, 1, 2, 3, 5])
            most = most_served(tree, value, 8)
            served[most] += 1
            if most < 8:
                self.refused_service(tree, value, most)
            self.serve(rng, tree, value, most, Service(tree, value, most))
        self.assertTrue(min(served[:5]) > 5, served)

    def refused_service(self, tree, value, most):
        for times in {most + 1, 8}:
            with self.assertRaises(NoService) as caught:
                Service(tree, value, times)
            self.same(caught.exception.most, most)

    def test_all_trees(self):
        rng = random.Random(153)
        for ends in [2, 3, 4, 5]:
            for pairs in all_pairs(ends)[::1 if ends < 5 else 9]:
                tree = some_lines(rng, ends, 6, pairs)
                self.serve(rng, tree, 2, most_served(tree, 2, 8), Service(tree, 2, most_served(tree, 2, 8)))

    def test_the_greatest(self):
        rng = random.Random(154)
        tree = Tree(5, [(u, u + 1, ("letters", 8, 8)) for u in range(1, 5)])
        self.serve(rng, tree, 1, 8, Service(tree, 1, 8))
        for value in [40320 // 2, 6720, 70]:
            most = most_served(tree, value, 8)
            self.serve(rng, tree, value, most, Service(tree=tree, value=value, times=most))
        self.refused_service(tree, 10 ** 12, 0)
        wired = Tree(5, [(1, end, ("wires", 10)) for end in range(2, 6)])
        self.serve(rng, wired, 1, 5, Service(wired, 1, 5))
        self.serve(rng, wired, 2520, 1, Service(wired, 2520, 1))

    def test_equal_arguments_do_the_same(self):
        tree = Tree(3, [(1, 2, ("letters", 6, 6)), (2, 3, ("wires", 10))])
        one, other = Service(tree, 3, 2), Service(tree, 3, 2)
        for end, number in [(2, 1), (3, 2)]:
            self.same(one.hand(end, number), other.hand(end, number))
            while one.under_way():
                self.same(one.under_way(), other.under_way())
                given = one.under_way()[-1]
                self.same(one.give(*given), other.give(*given))

    def test_an_end_does_what_it_was_brought(self):
        """What an end sends does not hang on what is still under way to others."""
        tree = Tree(4, [(1, 2, ("letters", 4, 4)), (1, 3, ("letters", 4, 4)), (1, 4, ("letters", 4, 4))])
        found = []
        for order in [(2, 3, 4), (4, 2, 3)]:
            service = Service(tree, 2, 2)
            service.hand(2, 1)
            while [given for given in service.under_way() if given[0] == 2]:
                service.give(*[given for given in service.under_way() if given[0] == 2][0])
            for near in order:
                for given in service.under_way():
                    if given[1] == near:
                        service.give(*given)
            found.append([given for given in service.under_way() if given[1] == 1])
        self.same(found[0], found[1])

    def test_calm(self):
        tree = Tree(4, [(1, 2, ("letters", 3, 3)), (2, 3, ("wires", 6)), (2, 4, ("letters", 3, 3))])
        service = Service(tree, 2, 2)
        self.same([service.calm(), service.hand(end=2, number=1)], [[], []])
        self.assertEqual(len(service.under_way()), 3)
        given = []
        other = Service(tree, 2, 2)
        other.hand(2, 1)
        while other.under_way():
            given.append(("give",) + other.under_way()[0])
            other.give(*other.under_way()[0])
        self.same([service.calm(), service.calm(), service.count()], [given, [], 1])

    def test_no_messages(self):
        tree = Tree(2, [(1, 2, ("letters", 0, 0))])
        service = Service(tree, 10 ** 12, 0)
        self.same([service.free(), service.count(), service.calm(), service.decided(1), service.left(1, 2)], [False, 0, [], [], (0, 0)])
        self.refused_with(NoTurn, {}, service.hand, None, None)

    def test_errors(self):
        tree = Tree(3, [(1, 2, ("letters", 3, 3)), (2, 3, ("wires", 6))])
        for wrong in WRONG_VALUES:
            self.refused(InvalidValue, wrong, Service, tree, wrong, -1)
        for wrong in BESIDE_0_TO_8:
            self.refused(InvalidTimes, wrong, Service, tree, 10 ** 12, wrong)
        service = Service(tree, 2, 2)
        for wrong in [0, 4, -1, 10 ** 20] + NO_INTEGERS:
            self.refused(InvalidEnd, wrong, service.hand, wrong, -1)
            self.refused(InvalidEnd, wrong, service.decided, wrong)
        for wrong in [-1, 2, 10 ** 20] + NO_INTEGERS:
            self.refused(InvalidNumber, wrong, service.hand, 1, wrong)
        self.lines_and_kinds(service)
        self.same([service.free(), service.under_way(), service.count()], [True, [], 0])
        service.hand(1, 1)
        self.refused_with(NoTurn, {}, service.hand, None, None)
        kind = service.under_way()[0][2]
        self.refused_with(NotSent, {"kind": kind}, service.give, 2, 1, kind)
        self.lines_and_kinds(service)
        self.same([service.give(u=1, w=2, kind=kind), service.decided(end=2), service.left(w=1, u=2)[1] < 3 or service.left(1, 2)[0] < 3], [[(2, ("decides", 1))], [(0, 1)], True])

    def lines_and_kinds(self, service):
        for u, w in [(1, 3), (3, 1), (1, 1), (0, 1), (1, 4), (-1, 2), (2, None), ("1", 2), (1, True), ([1], 2)]:
            self.refused_with(NoLine, {"u": u, "w": w}, service.give, u, w, None)
            self.refused_with(NoLine, {"u": u, "w": w}, service.left, u, w)
        for kind in [0, -1, 7, 10 ** 20] + NO_INTEGERS:
            self.refused_with(NotSent, {"kind": kind}, service.give, 2, 3, kind)

    def test_lists_are_new(self):
        tree = Tree(2, [(1, 2, ("letters", 8, 8))])
        service = Service(tree, 2, 2)
        for found in [service.hand(1, 1), service.under_way(), service.calm(), service.decided(2)]:
            found.append(1)
        self.same([service.under_way(), service.decided(2), service.calm()], [[], [(0, 1)], []])
        self.assertEqual(service.left(1, 2), service.left(2, 1))


if __name__ == "__main__":
    unittest.main()
