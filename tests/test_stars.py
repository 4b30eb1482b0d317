"""Points 241 to 243: one end and many others, at once."""

import copy
import random
import unittest
from itertools import combinations_with_replacement, product

from tests.helper import NO_INTEGERS, NO_LISTS, Case
from tests.test_exchange import greatest, some_values
from upforgood.errors import Handed, InvalidAnswers, InvalidEnd, InvalidKinds, InvalidValue, NoLine, NotSent
from upforgood.stars import Gather, Spread, gathered, spread

WRONG_KINDS = NO_LISTS + [[], (), [0], [9], [1, 0], [2] * 5, (1,) * 5, [True], [2, False], [None], ["2"], [[2]], [(2,), 1]]
WRONG_ANSWERS = NO_LISTS + [[], (), [-1], [9], [1, -1], [2] * 5, (0,) * 5, [True], [2, False], [None], ["2"], [[2]], [(2,), 1]]
BESIDE_0_TO_8 = [-1, 9, 10 ** 20] + NO_INTEGERS


class Numbers(Case):
    def test_gathered(self):
        for answers in range(9):
            told = [greatest(kinds, answers + 2) for kinds in range(1, 9)]
            for many in range(1, 5):
                for kinds in combinations_with_replacement(range(1, 9), many):
                    expected = tuple(told[number - 1] for number in kinds)
                    self.same(gathered(kinds, answers), expected)
                    self.same(gathered(kinds=list(kinds[::-1]), answers=answers), expected[::-1])

    def test_spread(self):
        for kinds in range(1, 9):
            for many in range(1, 5):
                for answers in combinations_with_replacement(range(9), many):
                    self.same(spread(kinds, answers), greatest(kinds, answers[0] + 2))
                    self.same(spread(kinds=kinds, answers=list(answers[::-1])), greatest(kinds, answers[0] + 2))

    def test_wrong(self):
        for call in [gathered, Gather]:
            for wrong in WRONG_KINDS:
                self.refused(InvalidKinds, wrong, call, wrong, -1)
            for wrong in BESIDE_0_TO_8:
                self.refused(InvalidAnswers, wrong, call, [1, 8], wrong)
        for call in [spread, Spread]:
            for wrong in [0] + BESIDE_0_TO_8:
                self.refused(InvalidKinds, wrong, call, wrong, [-1])
            for wrong in WRONG_ANSWERS:
                self.refused(InvalidAnswers, wrong, call, 1, wrong)


class Watched:
    """A star of which each entry is checked by points 242 and 243."""

    def __init__(self, case, star, own, values):
        self.case = case
        self.star = star
        # How many kinds each end has, and what is handed to those that tell.
        self.own = own
        self.values = values
        self.handed = {}
        self.given = []
        self.sent = set()
        self.decided = []

    def hand(self, end):
        before = self.star.under_way()
        arguments = (end, self.values[end]) if isinstance(self.star, Gather) else (self.values[end],)
        told = self.star.hand(*arguments)
        self.handed[end] = True
        self.check(end, before, told)

    def give(self, u, w, kind):
        before = self.star.under_way()
        is_new = (u, w, kind) not in self.given
        told = self.star.give(u, w, kind)
        if not is_new:
            self.case.same([told, self.star.under_way(), self.star.decided()], [[], before, sorted(self.decided)])
            return
        self.given.append((u, w, kind))
        self.check(w, [given for given in before if given != (u, w, kind)], told)

    def check(self, end, before, told):
        """Only this end sends, kinds that it has and did not send there; and nothing is decided early, wrongly or twice."""
        behind = self.star.under_way()
        self.case.same(behind, sorted(set(behind)))
        self.case.assertTrue(set(before) <= set(behind))
        for u, w, kind in set(behind) - set(before):
            self.case.assertEqual(u, end)
            self.case.assertTrue(1 <= kind <= self.own[u])
            self.case.assertNotIn((u, w, kind), self.sent)
            self.sent.add((u, w, kind))
        for who, value in told:
            teller = who if isinstance(self.star, Gather) else 0
            self.case.assertIn(teller, self.handed)
            self.case.same(value, self.values[teller])
            self.case.assertNotIn(who, [other for other, _ in self.decided])
            self.case.assertEqual(end, 0 if isinstance(self.star, Gather) else who)
            self.decided.append((who, value))
        self.case.same(self.star.decided(), sorted(self.decided))
        hub = [(kind, w) for u, w, kind in self.sent if u == 0]
        others = len(self.own) - 1
        for kind in set(kind for kind, _ in hub):
            self.case.assertEqual(sorted(w for other, w in hub if other == kind), list(range(1, others + 1)))

    def run(self, rng, again):
        handings = list(self.values)
        while handings or self.star.under_way():
            under_way = self.star.under_way()
            if self.given and rng.random() < again:
                self.give(*rng.choice(self.given))
            elif handings and (not under_way or rng.random() < 0.2):
                self.hand(handings.pop(rng.randrange(len(handings))))
            else:
                self.give(*rng.choice(under_way))
        self.ends_well()

    def ends_well(self):
        """When all were handed and nothing is under way, all is decided."""
        if isinstance(self.star, Gather):
            expected = sorted(self.values.items())
        else:
            expected = [(end, self.values[0]) for end in range(1, len(self.own))]
        self.case.same(self.star.decided(), expected)

    def branch(self):
        other = copy.copy(self)
        other.star = copy.deepcopy(self.star)
        other.handed, other.given, other.decided, other.sent = dict(self.handed), list(self.given), list(self.decided), set(self.sent)
        return other


def watched_gather(case, kinds, answers, values):
    own = dict(enumerate([answers] + list(kinds)))
    return Watched(case, Gather(kinds, answers), own, dict(enumerate(values, 1)))


def watched_spread(case, kinds, answers, value):
    return Watched(case, Spread(kinds, answers), dict(enumerate([kinds] + list(answers))), {0: value})


class Works(Case):
    def test_gathers(self):
        rng = random.Random(242)
        for many in range(1, 5):
            for _ in range(60):
                kinds, answers = [rng.randint(1, 8) for _ in range(many)], rng.randint(0, 8)
                numbers = gathered(kinds, answers)
                for values in [[0] * many, [number - 1 for number in numbers], [rng.randrange(number) for number in numbers]]:
                    for again in [0, 0.3]:
                        watched_gather(self, kinds, answers, values).run(rng, again)

    def test_spreads(self):
        rng = random.Random(243)
        for many in range(1, 5):
            for _ in range(60):
                kinds, answers = rng.randint(1, 8), [rng.randint(0, 8) for _ in range(many)]
                for value in some_values(rng, spread(kinds, answers)):
                    for again in [0, 0.3]:
                        watched_spread(self, kinds, answers, value).run(rng, again)

    def test_each_value(self):
        rng = random.Random(241)
        for kinds, answers in [([4, 2], 1), ([3, 3], 1), ([5], 2), ([1, 2, 1, 3], 0), ([4, 1], 3)]:
            for values in product(*[range(number) for number in gathered(kinds, answers)]):
                watched_gather(self, kinds, answers, values).run(rng, 0)
        for kinds, answers in [(5, [2]), (5, [1, 3]), (4, [8, 8, 2, 3]), (1, [0, 1]), (6, [0, 0, 0])]:
            for value in range(spread(kinds, answers)):
                watched_spread(self, kinds, answers, value).run(rng, 0)

    def test_every_order(self):
        for kinds, answers in [([3, 2], 1), ([2, 3], 2), ([4], 2), ([1, 1, 2], 1), ([3, 1], 3)]:
            numbers = gathered(kinds, answers)
            for values in [[0] * len(kinds), [number - 1 for number in numbers]]:
                self.go_through(watched_gather(self, kinds, answers, values))
        for kinds, answers in [(3, [2, 1]), (4, [2, 2]), (3, [0, 1]), (1, [0, 0]), (2, [3, 3, 3])]:
            for value in sorted({0, spread(kinds, answers) - 1}):
                self.go_through(watched_spread(self, kinds, answers, value))

    def go_through(self, first):
        left, met, ended = [first], set(), 0
        while left:
            watched = left.pop()
            key = repr([sorted(watched.handed), watched.given])
            if key in met:
                continue
            met.add(key)
            entries = [("hand", end) for end in watched.values if end not in watched.handed]
            entries += [("give",) + given for given in watched.star.under_way()]
            if not entries:
                watched.ends_well()
                ended += 1
            for entry in entries:
                behind = watched.branch()
                getattr(behind, entry[0])(*entry[1:])
                left.append(behind)
        self.assertGreater(ended, 0)

    def test_what_was_sent_hangs_alone_on_what_came(self):
        """A sender sends the same, whatever the others do, if the same comes to it."""
        rng = random.Random(7)
        for kinds, answers in [([5, 3, 2], 2), ([4, 4], 8), ([6], 3)]:
            seen = {}
            numbers = gathered(kinds, answers)
            for _ in range(60):
                values = [rng.randrange(min(number, 3)) for number in numbers]
                gather = Gather(kinds, answers)
                handings = list(range(1, len(kinds) + 1))
                saw = {end: () for end in range(len(kinds) + 1)}
                while handings or gather.under_way():
                    before = gather.under_way()
                    if handings and (not before or rng.random() < 0.2):
                        end = handings.pop(rng.randrange(len(handings)))
                        event = ("handed", values[end - 1])
                        told = gather.hand(end, values[end - 1])
                    else:
                        given = rng.choice(before)
                        end, event = given[1], given
                        told = gather.give(*given)
                        before.remove(given)
                    saw[end] += (event,)
                    sent = [given for given in gather.under_way() if given not in before]
                    self.assertEqual(seen.setdefault((end, saw[end]), (sent, told)), (sent, told))

    def test_calm(self):
        for star, values in [(Gather([5, 2, 3], 2), [59, 1, 5]), (Spread(6, [3, 1, 2]), [0]), (Gather((1,), 0), [0]), (Spread(1, (0,)), [0])]:
            twin = copy.deepcopy(star)
            for each in (star, twin):
                for at, value in enumerate(values, 1):
                    told = each.hand(at, value) if isinstance(each, Gather) else each.hand(value)
                    self.same(told, [])
            given = []
            while twin.under_way():
                given.append(twin.under_way()[0])
                twin.give(*given[-1])
            self.same([star.calm(), star.under_way(), star.calm()], [given, [], []])
            self.same(star.decided(), twin.decided())
            self.assertTrue(star.decided())

    def test_calm_ahead_of_all_handings(self):
        gather = Gather([3, 2], 1)
        self.same([gather.calm(), gather.decided(), gather.hand(end=2, value=0), len(gather.calm()) > 0], [[], [], [], True])
        self.same([gather.decided(), gather.hand(1, 3), len(gather.calm()) > 0, gather.decided()], [[(2, 0)], [], True, [(1, 3), (2, 0)]])


class Errors(Case):
    def test_gather(self):
        gather, twin = Gather([3, 2], 1), Gather((3, 2), 1)
        for wrong in [0, -1, 3, 10 ** 20] + NO_INTEGERS:
            self.refused(InvalidEnd, wrong, gather.hand, wrong, -1)
        for end, number in [(1, 6), (2, 2)]:
            for wrong in [-1, number, 10 ** 20] + NO_INTEGERS:
                self.refused(InvalidValue, wrong, gather.hand, end, wrong)
            self.same([gather.hand(end, number - 1), twin.hand(end, number - 1)], [[], []])
            for wrong in [0, -1, number, None]:
                self.refused_with(Handed, {"side": end}, gather.hand, end, wrong)
        self.gives(gather, twin, 2)

    def test_spread(self):
        star, twin = Spread(3, [2, 1]), Spread(3, (2, 1))
        for wrong in [-1, 6, 10 ** 20] + NO_INTEGERS:
            self.refused(InvalidValue, wrong, star.hand, wrong)
        self.same([star.hand(value=5), twin.hand(5)], [[], []])
        for wrong in [5, 0, -1, 6, None]:
            with self.assertRaises(Handed) as caught:
                star.hand(wrong)
            self.same(caught.exception.side, 0)
        self.gives(star, twin, 2)

    def gives(self, star, twin, others):
        for u, w in product([-1, 0, 1, 2, 3, 10 ** 20] + NO_INTEGERS, repeat=2):
            numbers = [type(u) is int and 0 <= u <= others, type(w) is int and 0 <= w <= others]
            if not all(numbers) or (u == 0) == (w == 0):
                self.refused_with(NoLine, {"u": u, "w": w}, star.give, u, w, -1)
            else:
                for wrong in [0, -1, 9, 10 ** 20] + NO_INTEGERS:
                    self.refused_with(NotSent, {"kind": wrong}, star.give, u, w, wrong)
                for kind in range(1, 4):
                    if (u, w, kind) not in star.under_way():
                        self.refused_with(NotSent, {"kind": kind}, star.give, u=u, w=w, kind=kind)
        self.same([star.under_way(), star.decided()], [twin.under_way(), twin.decided()])
        self.same([star.calm(), star.decided()], [twin.calm(), twin.decided()])

    def test_true_is_not_1(self):
        for star, u, w in [(Gather([1, 1], 0), 1, 0), (Spread(1, [0]), 0, 1)]:
            for each in ([1, 0],) if isinstance(star, Gather) else ([0],):
                star.hand(*each)
            self.same(star.under_way(), [(u, w, 1)])
            self.refused_with(NotSent, {"kind": True}, star.give, u, w, True)
            for ends in [(u == 1, w), (u, w == 1), (u == 1, w == 1)]:
                self.refused_with(NoLine, {"u": ends[0], "w": ends[1]}, star.give, *ends, 1)
            self.same([star.give(u, w, 1), star.give(u, w, 1)], [[(1, 0)], []])

    def test_lists_that_are_changed_later(self):
        kinds, answers = [3, 2], [2, 1]
        for star, twin in [(Gather(kinds, 1), Gather([3, 2], 1)), (Spread(3, answers), Spread(3, [2, 1]))]:
            kinds.clear()
            answers.clear()
            for each in (star, twin):
                handed = [each.hand(1, 5), each.hand(2, 1)] if isinstance(each, Gather) else [each.hand(5)]
                handed[0].append("more")
            star.under_way().clear()
            first = star.under_way()[0]
            for each in (star, twin):
                each.give(*first).append("more")
                each.give(*first).append("more")
            star.decided().append("more")
            star.calm().append("more")
            twin.calm()
            self.same([star.decided(), star.under_way(), star.calm()], [twin.decided(), [], []])
            star.decided().clear()
            self.same(star.decided(), twin.decided())


if __name__ == "__main__":
    unittest.main()
