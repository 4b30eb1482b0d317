"""Points 211 to 214: messages in any order, tells in any order, and the room of each number."""

import random
import unittest
from itertools import combinations_with_replacement, permutations, product

from tests.helper import NO_INTEGERS, NO_LISTS, Case
from tests.lots import just_enough, some_pairs, some_text
from tests.test_rows import BESIDE_0_TO_16, LONG_ROWS, WRONG_ROWS, told_by_splits
from tests.test_wires import BESIDE_0_TO_24, told_by_use
from tests.test_wires import LONG_ROWS as LONG_ROWS_ON_WIRES
from upforgood.errors import InvalidAt, InvalidMessages, InvalidOrder, InvalidOther, InvalidOwn, InvalidRow, InvalidSpec, InvalidTells, InvalidText, InvalidWires
from upforgood.keeping import barred, can_keep
from upforgood.rows import can_tell
from upforgood.trees import Tree
from upforgood.turnings import can_order, kept_order, orders, room, room_of, room_raised, row_of
from upforgood.wires import can_raise

WRONG_SPECS = NO_INTEGERS + [("letters", 9, 1), ("letters", 1), ("wires", 11), ["wires", 2], ("wires", True), ("wires",), ("bells", 1)]
SPOILT_MESSAGES = [
    (2, 1), (-1, 1), (True, 1), (False, 2), (0, 0), (1, -1), (0, 10 ** 12 + 1), (0, True), (0, None), ("0", 1), (0,), (0, 1, 1), [0, 1], 0, None, "01", (), ((0, 1),),
]
SPECS = [("letters", 3, 2), ("letters", 2, 3), ("letters", 4, 4), ("letters", 0, 2), ("letters", 8, 8), ("wires", 0), ("wires", 4), ("wires", 7), ("wires", 10)]
TREE = Tree(3, [(1, 2, ("letters", 3, 2)), (2, 3, ("wires", 6))])


def row_by_words(order):
    """The numbers in their order, with a 1 between two messages of one side that follow each other."""
    row = []
    for ahead, (side, number) in zip([None] + list(order), order):
        row += [1, number] if ahead is not None and ahead[0] == side else [number]
    return row


def told(spec, order):
    row = tuple(row_by_words(order))
    if spec[0] == "wires":
        return told_by_use(row, spec[1])
    if order and order[0][0] == 1:
        return told_by_splits(row, spec[2], spec[1])
    return told_by_splits(row, spec[1], spec[2])


class Orders(Case):
    def test_row_of(self):
        for many in range(5):
            for order in product([(0, 2), (1, 3), (0, 10 ** 12), (1, 1)], repeat=many):
                expected = (order[0][0] if order else 0, row_by_words(order))
                self.same(row_of(order), expected)
                self.same(row_of(order=list(order)), expected)
        self.same(row_of([(1, 2)] * 8), (1, [2] + [1, 2] * 7))
        row_of([(0, 2)])[1].clear()
        self.same(row_of([(0, 2)]), (0, [2]))

    def test_can_order(self):
        rng = random.Random(212)
        for spec in SPECS:
            self.same([can_order(spec, []), can_order(spec, ())], [True, True])
            for _ in range(60):
                order = [(rng.randint(0, 1), rng.choice([1, 1, 2, 2, 3, 6, 24])) for _ in range(rng.randint(1, 4))]
                self.same(can_order(spec=spec, order=order), told(spec, order))
            order = [(at % 2, 1) for at in range(8)]
            self.same(can_order(spec, tuple(order)), told(spec, order))

    def test_orders_against_all(self):
        rng = random.Random(213)
        for spec in SPECS:
            for _ in range(25):
                messages = [(rng.randint(0, 1), rng.choice([1, 2, 2, 3, 5])) for _ in range(rng.randint(0, 4))]
                expected = sorted(order for order in set(permutations(messages)) if told(spec, order))
                self.same(orders(spec=spec, messages=messages), expected)
                self.same(orders(spec, tuple(messages[::-1])), expected)
            self.same([orders(spec, []), orders(spec, ())], [[()], [()]])

    def test_six_messages(self):
        for spec, messages in [
            (("letters", 8, 8), [(0, 1), (0, 2), (0, 3), (1, 1), (1, 2), (1, 3)]), (("wires", 10), [(0, 1), (0, 2), (1, 1), (1, 2), (0, 3), (1, 3)]),
            (("letters", 6, 5), [(0, 2)] * 3 + [(1, 2)] * 3), (("wires", 9), [(1, 1)] * 3 + [(0, 2)] * 2 + [(0, 1)]), (("letters", 8, 8), [(1, 1)] * 6),
        ]:
            expected = sorted(order for order in set(permutations(messages)) if told(spec, order))
            self.same(orders(spec, messages), expected)
        self.same(len(orders(("letters", 8, 8), [(0, 1), (1, 1)] * 3)), 20)
        found = orders(("wires", 4), [(0, 2), (0, 2)])
        found.append("more")
        self.same(orders(("wires", 4), [(0, 2), (0, 2)]), [((0, 2), (0, 2))])

    def test_wrong_specs(self):
        for wrong in WRONG_SPECS:
            self.refused(InvalidSpec, wrong, can_order, wrong, None)
            self.refused(InvalidSpec, wrong, orders, wrong, None)

    def test_wrong_messages(self):
        for wrong in NO_LISTS + [[(0, 1)] * 9, ((1, 2),) * 9, (0, 1)]:
            self.refused(InvalidOrder, wrong, row_of, wrong)
            self.refused(InvalidOrder, wrong, can_order, ("wires", 3), wrong)
        for wrong in NO_LISTS + [[(0, 1)] * 7, ((1, 2),) * 8, (0, 1)]:
            self.refused(InvalidMessages, wrong, orders, ("wires", 3), wrong)
        for spoilt in SPOILT_MESSAGES:
            for at in range(4):
                wrong = [(0, 1)] * at + [spoilt] + [(1, 10 ** 12)] * (3 - at)
                self.refused(InvalidOrder, wrong, row_of, wrong)
                self.refused(InvalidOrder, wrong, can_order, ("wires", 3), wrong)
                self.refused(InvalidMessages, wrong, orders, ("wires", 3), wrong)
        self.same(can_order(("wires", 10), [(0, 1)] * 8), False)


class Tells(Case):
    def agrees(self, tree, tells):
        found = kept_order(tree, tells)
        self.same(kept_order(tree=tree, tells=tuple(tells)), found)
        texts = []
        for order in set(permutations(tells)):
            speakers = [tell[0] for tell in order[1:]] + [0]
            texts.append(tuple([("tell",) + tell + (q, False) for tell, q in zip(order, speakers)]))
        kept = [text for text in texts if can_keep(tree, text)]
        if found is None:
            self.same(kept, [])
        else:
            self.assertIn(found, kept)
            self.same([type(found), [type(step) for step in found]], [tuple, [tuple] * len(tells)])
        return found is not None

    def test_against_all_orders(self):
        rng = random.Random(214)
        verdicts = {}
        for _ in range(150):
            ends = rng.randint(2, 4)
            tells = []
            for _ in range(rng.randint(1, 4)):
                speaker = rng.randint(1, ends)
                others = [end for end in range(1, ends + 1) if end != speaker]
                tells.append((speaker, tuple(sorted(rng.sample(others, rng.randint(1, len(others))))), rng.randint(1, 3)))
            if rng.random() < 0.3 and len(tells) > 1:
                tells[1] = tells[0]
            lines = [(u, w, rng.choice([("letters", rng.randint(1, 5), rng.randint(1, 5)), ("wires", rng.randint(2, 9))])) for u, w in some_pairs(rng, ends)]
            verdict = self.agrees(Tree(ends, lines), tells)
            verdicts[len(tells), verdict] = True
        self.assertEqual(len(verdicts), 8)

    def test_many_tells(self):
        tells = [(1, (2,), 2), (2, (1,), 2), (1, (2,), 3), (2, (1,), 3), (1, (2,), 1)]
        for m, b in [(5, 5), (6, 6), (5, 6), (6, 5), (7, 4)]:
            self.agrees(Tree(2, [(1, 2, ("letters", m, b))]), tells)
        # One after the other they need 12 wires, and more where an end speaks twice.
        for wires in [7, 9, 10]:
            self.agrees(Tree(2, [(1, 2, ("wires", wires))]), tells[:4])
        six = [(1, (2,), 1), (2, (1,), 1)] * 3
        self.same(kept_order(Tree(2, [(1, 2, ("letters", 3, 3))]), six) is None, False)
        self.same(kept_order(Tree(2, [(1, 2, ("letters", 3, 2))]), six), None)
        self.agrees(Tree(3, [(1, 2, ("wires", 10)), (2, 3, ("letters", 5, 4))]), [(1, (3,), 1), (3, (1, 2), 1), (2, (1, 3), 2), (1, (2, 3), 2), (3, (2,), 1)])
        self.agrees(Tree(2, [(1, 2, ("letters", 8, 8))]), [(1, (2,), 2)] * 6)
        self.same(kept_order(Tree(2, [(1, 2, ("letters", 8, 4))]), [(1, (2,), 2)] * 6), None)

    def test_it_matters_where_the_next_one_stands(self):
        """A step that goes on beyond a line costs it a signal, even if nobody hears there."""
        tree = Tree(3, [(1, 2, ("letters", 1, 1)), (2, 3, ("letters", 1, 1))])
        self.agrees(tree, [(1, (2,), 1), (3, (2,), 1)])
        self.agrees(Tree(3, [(1, 2, ("letters", 2, 1)), (2, 3, ("letters", 1, 1))]), [(1, (2,), 2), (3, (2,), 1)])
        self.agrees(Tree(3, [(1, 2, ("letters", 1, 1)), (2, 3, ("letters", 0, 1))]), [(1, (2,), 1), (3, (2,), 1)])

    def test_wrong(self):
        for wrong in NO_LISTS + [[], (), [(1, (2,), 1)] * 7, (1, (2,), 1)]:
            self.refused(InvalidTells, wrong, kept_order, TREE, wrong)
        spoilt = [
            (4, (2,), 1), (1, (1,), 1), (1, (4,), 1), (1, (3, 2), 1), (1, (2, 2), 1), (1, (), 1), (1, [2], 1), (1, (2,), 0), (1, (2,), 10 ** 12 + 1), (1, (2,), True),
            (True, (2,), 1), (1, (True,), 1), (1, (2,)), (1, (2,), 1, 0), [1, (2,), 1], None, 1, "tell", (), ("tell", 1, (2,), 1),
        ]
        for tell in spoilt:
            for at in range(3):
                wrong = [(1, (2,), 1)] * at + [tell] + [(2, (1, 3), 10 ** 12)] * (2 - at)
                self.refused(InvalidTells, wrong, kept_order, TREE, wrong)


class Room(Case):
    def agrees(self, row, told_by, found):
        """No place has more room, and each has as much as is told."""
        self.same([type(found), len(found)], [list, len(row)])
        for at, number in enumerate(found):
            self.assertIs(type(number), int)
            self.assertTrue(number >= 0)
            self.assertFalse(told_by(row[:at] + [number + 1] + row[at + 1:]))
            if number > 0:
                self.assertTrue(told_by(row[:at] + [number] + row[at + 1:]))

    def test_letters(self):
        rows = [list(row) for many in range(4) for row in product([1, 2, 3, 7], repeat=many)]
        for row in rows:
            for own, other in product(range(5), repeat=2):
                self.agrees(row, lambda row: told_by_splits(tuple(row), own, other), room(row, own, other))

    def test_long_rows_on_letters(self):
        for row in LONG_ROWS:
            for own, other in [(0, 0), (16, 16), (16, 0), (0, 16), (16, 15), (8, 8), (16, 4), (5, 12)]:
                found = room(row=tuple(row), own=own, other=other)
                self.agrees(row, lambda row: can_tell(row, own, other), found)
                self.same(found, room(row, own, other))

    def test_wires(self):
        rows = [list(row) for many in range(4) for row in product([1, 2, 3, 8], repeat=many)]
        for row in rows:
            for wires in range(8):
                self.agrees(row, lambda row: told_by_use(tuple(row), wires), room_raised(row, wires))
        for row in LONG_ROWS_ON_WIRES:
            for wires in [0, 5, 11, 16, 23, 24]:
                self.agrees(list(row), lambda row: can_raise(row, wires), room_raised(row=tuple(row), wires=wires))

    def test_edges(self):
        self.same([room([], 3, 3), room_raised([], 3), room([5], 0, 3), room([1, 1], 1, 0), room_raised([1], 0)], [[], [], [0], [0, 0], [0]])
        self.same([room([10 ** 50], 16, 16), room([10 ** 50, 1], 16, 16)], [[20922789888000], [20922789888000, 0]])
        room([1], 1, 1).append(0)
        self.same(room([1], 1, 1), [1])

    def test_wrong(self):
        for wrong in WRONG_ROWS:
            self.refused(InvalidRow, wrong, room, wrong, -1, -1)
            self.refused(InvalidRow, wrong, room_raised, wrong, -1)
        for wrong in BESIDE_0_TO_16:
            self.refused(InvalidOwn, wrong, room, [1], wrong, -1)
            self.refused(InvalidOther, wrong, room, [1], 1, wrong)
        for wrong in BESIDE_0_TO_24:
            self.refused(InvalidWires, wrong, room_raised, [1], wrong)


class RoomOf(Case):
    def agrees(self, tree, text, at):
        found = room_of(tree=tree, text=text, at=at)
        step = text[at]
        for number, expected in [(found, True), (found + 1, False)]:
            if number > 0:
                other = text[:at] + (step[:3] + (number,) + step[4:],) + text[at + 1:]
                self.same(can_keep(tree, other), expected)
        return found

    def test_against_can_keep(self):
        rng = random.Random(215)
        found = {}
        for _ in range(120):
            ends = rng.randint(2, 5)
            text = some_text(rng, ends, 4, 4)
            lines = [(u, w, rng.choice([("letters", rng.randint(0, 8), rng.randint(0, 8)), ("wires", rng.randint(0, 10))])) for u, w in some_pairs(rng, ends)]
            for tree in [Tree(ends, lines), just_enough(rng, ends, [line[:2] for line in lines], text)]:
                for at, step in enumerate(text):
                    if step[0] == "deal":
                        self.refused_with(InvalidAt, {"given": at}, room_of, Tree(ends, lines), text, at)
                    elif tree is not None:
                        found[step[0], step[5], self.agrees(tree, text, at) > 0] = True
        self.assertEqual(len(found), 8)

    def test_edges(self):
        text = (("tell", 1, (2,), 10 ** 12, 2, True), ("ask", 2, (1,), 10 ** 12, (2,), False))
        tree = Tree(2, [(1, 2, ("letters", 8, 8))])
        self.same([room_of(tree, text, 0), room_of(tree, text, 1)], [0, 0])
        self.same([room_of(tree, text[:1], 0), room_of(tree, text[1:], 0)], [40319, 40320])
        self.same(room_of(Tree(2, [(1, 2, ("letters", 1, 8))]), (("tell", 1, (2,), 1, 0, True),), 0), 0)
        self.same(room_of(Tree(2, [(1, 2, ("letters", 1, 8))]), (("tell", 1, (2,), 1, 0, False),), 0), 1)
        # A line over which the number does not go cannot tell its own row.
        apart = Tree(3, [(1, 2, ("letters", 8, 8)), (2, 3, ("letters", 0, 0))])
        self.same(room_of(apart, (("tell", 1, (2,), 2, 3, False),), 0), 0)
        self.same([barred(apart, (("tell", 1, (2,), 2, 3, False),)), room_of(apart, (("tell", 1, (2,), 2, 2, False),), 0)], [[(2, 3)], 40320])

    def test_wrong(self):
        text = (("tell", 1, (2,), 2, 1, False), ("deal", 1, (2,), (2,), 2, False), ("ask", 2, (1, 3), 1, (2, 2), False))
        for wrong in NO_LISTS + [[], (), text[1:] + text[:1]]:
            self.refused(InvalidText, wrong, room_of, TREE, wrong, None)
        for wrong in [-1, 1, 3, 10 ** 20] + NO_INTEGERS:
            self.refused(InvalidAt, wrong, room_of, TREE, text, wrong)
        self.agrees(TREE, text, 0)
        self.agrees(TREE, text, 2)


class Listed(Case):
    def test_rows_of_orders_take_turns(self):
        """The number of all orders of few messages over a line with kinds for all of them."""
        for messages in combinations_with_replacement([(0, 1), (1, 1), (0, 2)], 3):
            self.same(orders(("letters", 8, 8), messages), sorted(set(permutations(messages))))


if __name__ == "__main__":
    unittest.main()
