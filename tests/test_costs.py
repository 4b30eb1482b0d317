"""Points 191 to 193: what texts allow, the cheapest lines, and what a tree costs."""

import random
import unittest
from itertools import permutations, product

from tests.helper import NO_INTEGERS, NO_LISTS, Case
from tests.lots import bare_tree, some_pairs, some_text
from upforgood.costs import allowed, cheapest, cost_of
from upforgood.errors import InvalidEnds, InvalidPairs, InvalidPrices, InvalidTexts, NoLine
from upforgood.keeping import barred, can_keep
from upforgood.trees import Tree

LETTERS = [("letters", m, b) for m in range(9) for b in range(9)]
WIRES = [("wires", wires) for wires in range(11)]
TEXT = (("tell", 1, (2,), 6, 1, False),)
BACK = (("tell", 2, (1,), 2, 0, False),)
SPOILT_TEXTS = [(), None, TEXT[0], [TEXT[0]], (("tell", 1, (3,), 6, 1, False),), (("tell", 1, (2,), 0, 1, False),), True, 1, "text"]
SPOILT_PRICES = [
    (), (1, 1), (1, 1, 1, 1), [1, 1, 1], None, 1, True, "111", (True, 1, 1), (1, False, 1), (1, 1, True), (-1, 1, 1), (1, 1001, 1), (1, 1, 10 ** 20), (1, "1", 1),
    (1, (1,), 1), {},
]


def tells(tree, text, u, w, spec):
    lines = [(low, high, spec if (low, high) == (u, w) else other) for low, high, other in tree.lines]
    return (u, w) not in barred(Tree(tree.ends, lines), text)


def price_of(spec, price):
    numbers = price[2:] if spec[0] == "wires" else price[:2]
    return None if None in numbers else sum(number * cost for number, cost in zip(spec[1:], numbers))


class Allowed(Case):
    def agrees(self, ends, pairs, texts):
        tree = bare_tree(ends, pairs)
        for u, w in pairs:
            told = [spec for spec in LETTERS + WIRES if all(tells(tree, text, u, w, spec) for text in texts)]
            letters = [spec[1:] for spec in told if spec[0] == "letters"]
            least = [(m, b) for m, b in letters if (m - 1, b) not in letters and (m, b - 1) not in letters]
            wires = [spec[1] for spec in told if spec[0] == "wires"]
            self.same(allowed(ends, pairs, texts, u, w), (least, wires[0] if wires else None))
            self.assertEqual(wires, list(range(11 - len(wires), 11)))

    def test_one_text_against_can_keep(self):
        rng = random.Random(191)
        for _ in range(40):
            text = some_text(rng, 2, 3, rng.choice([2, 5, 30]))
            told = [spec for spec in LETTERS + WIRES if can_keep(Tree(2, [(1, 2, spec)]), text)]
            letters = [spec[1:] for spec in told if spec[0] == "letters"]
            wires = [spec[1] for spec in told if spec[0] == "wires"]
            least = [(m, b) for m, b in letters if (m - 1, b) not in letters and (m, b - 1) not in letters]
            self.same(allowed(2, [(1, 2)], [text], 1, 2), (least, min(wires, default=None)))

    def test_several_texts(self):
        rng = random.Random(192)
        for many in [1, 2, 3, 4, 4]:
            for ends in range(2, 5):
                self.agrees(ends, some_pairs(rng, ends), [some_text(rng, ends, 2, 4) for _ in range(many)])

    def test_edges(self):
        nothing = (("tell", 1, (2,), 1, 0, False),)
        pairs = [(2, 3), (1, 2)]
        self.same(allowed(3, pairs, [nothing], 2, 3), ([(0, 0)], 0))
        self.same(allowed(ends=3, pairs=tuple(pairs), texts=(nothing,), u=1, w=2), ([(1, 0)], 1))
        self.same(allowed(2, [(1, 2)], [TEXT, (("tell", 2, (1,), 6, 2, False),)], 1, 2), ([(3, 3)], 4))
        self.same(allowed(2, [(1, 2)], [(("tell", 1, (2,), 40320, 0, False),)], 1, 2), ([(8, 6)], None))
        self.same(allowed(2, [(1, 2)], [(("tell", 1, (2,), 40321, 0, False),)], 1, 2), ([], None))
        far = (("tell", 1, (2,), 10 ** 12, 2, False), ("tell", 2, (1,), 10 ** 12, 0, False))
        self.same([allowed(2, [(1, 2)], [far], 1, 2), allowed(2, [(1, 2)], [TEXT, far], 1, 2)], [([], None)] * 2)
        self.same(cheapest(2, [(1, 2)], [(0, 0, 0)], [TEXT, far]), None)
        found = allowed(2, [(1, 2)], [TEXT, BACK], 1, 2)
        found[0].append("more")
        self.same(allowed(2, [(1, 2)], [TEXT, BACK], 1, 2), ([(3, 2)], 4))

    def test_wrong(self):
        for wrong in [1, 6, -1, 10 ** 20] + NO_INTEGERS:
            self.refused(InvalidEnds, wrong, allowed, wrong, None, None, 1, 1)
            self.refused(InvalidEnds, wrong, cheapest, wrong, None, None, None)
        for wrong in NO_LISTS + [[], [(1, 2), (1, 2)], [(2, 1)], [(1, 3)], [[1, 2]], [(1, 2, 3)], [(True, 2)], [(1, 1)], [None]]:
            self.refused(InvalidPairs, wrong, allowed, 2, wrong, None, 1, 1)
            self.refused(InvalidPairs, wrong, cheapest, 2, wrong, None, None)
        for wrong in NO_LISTS + [[], (), [TEXT] * 5, TEXT]:
            self.refused(InvalidTexts, wrong, allowed, 2, [(1, 2)], wrong, 1, 1)
            self.refused(InvalidTexts, wrong, cheapest, 2, [(1, 2)], [(1, 1, 1)], wrong)
        for spoilt in SPOILT_TEXTS:
            for at in range(4):
                wrong = [BACK, TEXT, BACK, TEXT][:at] + [spoilt] + [TEXT] * (3 - at)
                self.refused(InvalidTexts, wrong, allowed, 2, [(1, 2)], wrong, 1, 1)
                self.refused(InvalidTexts, wrong, cheapest, 2, [(1, 2)], [(1, 1, 1)], wrong)
        pairs = [(2, 3), (1, 2)]
        for u, w in list(product([0, 1, 2, 3, 4, True, None, "1", [1], (1,)], repeat=2)):
            if not (type(u) is int and (u, w) in pairs):
                self.refused_with(NoLine, {"u": u, "w": w}, allowed, 3, pairs, [TEXT], u, w)


class Cheapest(Case):
    def agrees(self, ends, pairs, prices, texts):
        tree = bare_tree(ends, pairs)
        least = []
        for (u, w, _), price in zip(tree.lines, prices):
            told = [spec for spec in LETTERS + WIRES if price_of(spec, price) is not None and all(tells(tree, text, u, w, spec) for text in texts)]
            least.append(min([price_of(spec, price) for spec in told], default=None))
        found = cheapest(ends, pairs, prices, texts)
        self.same(cheapest(ends=ends, pairs=tuple(pairs[::-1]), prices=tuple(prices), texts=tuple(texts)), found)
        if None in least:
            self.same(found, None)
            return
        cost, specs = found
        self.same([type(found), type(specs), cost, len(specs)], [tuple, tuple, sum(least), len(pairs)])
        bought = Tree(ends, [(u, w, spec) for (u, w, _), spec in zip(tree.lines, specs)])
        self.same([can_keep(bought, text) for text in texts], [True] * len(texts))
        self.same(cost_of(bought, prices), cost)

    def test_against_a_search_line_by_line(self):
        rng = random.Random(192)
        for many in [1, 1, 2, 3, 4]:
            for ends in range(2, 5):
                pairs = some_pairs(rng, ends)
                texts = [some_text(rng, ends, 2, 3) for _ in range(many)]
                for _ in range(2):
                    prices = [tuple(rng.choice([None, 0, 1, 2, 7, 1000]) for _ in range(3)) for _ in pairs]
                    self.agrees(ends, pairs, prices, texts)

    def test_against_a_search_of_all_trees(self):
        """Lines stand apart: nothing cheaper is found when all lines are chosen together."""
        text = (("tell", 1, (3,), 2, 3, False), ("tell", 3, (1, 2), 2, 0, False))
        specs = [spec for spec in LETTERS + WIRES if max(spec[1:]) <= 4]
        for prices in [[(3, 1, 1), (1, 7, None)], [(None, 1, 9), (2, 2, 3)], [(0, 0, 0), (5, 0, 1)]]:
            costs = []
            for first, second in product(specs, repeat=2):
                tree = Tree(3, [(1, 2, first), (2, 3, second)])
                cost = [price_of(first, prices[0]), price_of(second, prices[1])]
                if None not in cost and can_keep(tree, text):
                    costs.append(sum(cost))
            self.same(cheapest(3, [(1, 2), (2, 3)], prices, [text])[0], min(costs))
            self.agrees(3, [(1, 2), (2, 3)], prices, [text])

    def test_each_place_of_a_price(self):
        for price in product([None, 0, 1, 1000], repeat=3):
            for texts in [[TEXT], [TEXT, BACK], [BACK]]:
                self.agrees(2, [(1, 2)], [price], texts)

    def test_pairs_in_any_order(self):
        text = (("tell", 1, (2, 3, 4), 2, 3, False),)
        pairs = [(1, 2), (2, 3), (2, 4)]
        prices = [(1, 2, 9), (None, 2, 1), (3, None, 4)]
        expected = cheapest(4, pairs, prices, [text])
        for order in permutations(pairs):
            self.same(cheapest(4, list(order), prices, [text]), expected)
        self.agrees(4, pairs, prices, [text])

    def test_nothing_to_be_had(self):
        wide = (("tell", 1, (2,), 40321, 0, False),)
        self.same(cheapest(2, [(1, 2)], [(1, 1, 1)], [wide]), None)
        self.same(cheapest(2, [(1, 2)], [(None, None, None)], [BACK]), None)
        nothing_over_it = (("tell", 1, (2,), 1, 0, False),)
        self.same(cheapest(3, [(1, 2), (2, 3)], [(1, 1, 1), (None, 0, None)], [nothing_over_it]), None)
        self.same(cheapest(3, [(1, 2), (2, 3)], [(1, 1, 1), (0, None, 5)], [nothing_over_it])[1][1], ("wires", 0))

    def test_wrong_prices(self):
        for wrong in NO_LISTS + [[], [(1, 1, 1)] * 2, ((1, 1, 1),) * 3, (1, 1, 1)]:
            self.refused(InvalidPrices, wrong, cheapest, 2, [(1, 2)], wrong, None)
            self.refused(InvalidPrices, wrong, cost_of, Tree(2, [(1, 2, ("wires", 1))]), wrong)
        tree = Tree(4, [(1, 2, ("wires", 1)), (2, 3, ("letters", 1, 0)), (3, 4, ("wires", 0))])
        for spoilt in SPOILT_PRICES:
            for at in range(3):
                wrong = [(None, 0, 1000)] * at + [spoilt] + [(1, 1, 1)] * (2 - at)
                self.refused(InvalidPrices, wrong, cheapest, 4, [(1, 2), (2, 3), (3, 4)], wrong, None)
                self.refused(InvalidPrices, wrong, cost_of, tree, wrong)


class Costs(Case):
    def test_against_an_own_sum(self):
        rng = random.Random(193)
        for _ in range(200):
            ends = rng.randint(2, 5)
            lines = [(u, w, rng.choice(LETTERS + WIRES * 6)) for u, w in some_pairs(rng, ends)]
            tree = Tree(ends, lines)
            prices = [tuple(rng.choice([None, 0, 1, 5, 1000, 17, 3]) for _ in range(3)) for _ in lines]
            costs = [price_of(spec, price) for (_, _, spec), price in zip(tree.lines, prices)]
            expected = None if None in costs else sum(costs)
            self.same(cost_of(tree, prices), expected)
            self.same(cost_of(tree=tree, prices=tuple(prices)), expected)

    def test_not_to_be_had_where_nothing_is_needed(self):
        self.same(cost_of(Tree(2, [(1, 2, ("letters", 0, 0))]), [(None, 1, 1)]), None)
        self.same(cost_of(Tree(2, [(1, 2, ("letters", 0, 3))]), [(None, 1, 1)]), None)
        self.same(cost_of(Tree(2, [(1, 2, ("letters", 3, 0))]), [(1, None, 1)]), None)
        self.same(cost_of(Tree(2, [(1, 2, ("wires", 0))]), [(1, 1, None)]), None)
        self.same([cost_of(Tree(2, [(1, 2, ("wires", 0))]), [(None, None, 7)]), cost_of(Tree(2, [(1, 2, ("wires", 10))]), [(None, None, 1000)])], [0, 10000])


if __name__ == "__main__":
    unittest.main()
