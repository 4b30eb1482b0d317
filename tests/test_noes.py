"""Points 181 and 182: papers of a no, and how far rows can be told."""

import random
import unittest
from itertools import product

from tests.helper import NO_INTEGERS, NO_LISTS, Case
from tests.lots import all_pairs, fewer, just_enough, some_text
from tests.test_keeping import line_told
from tests.test_rows import BESIDE_0_TO_16, LONG_ROWS, WRONG_ROWS, told_by_splits
from tests.test_wires import BESIDE_0_TO_24, told_by_use
from tests.test_wires import LONG_ROWS as LONG_ROWS_ON_WIRES
from upforgood.errors import InvalidOther, InvalidOwn, InvalidRow, InvalidText, InvalidWires
from upforgood.keeping import barred, can_keep, papers
from upforgood.noes import is_no_paper, no_paper, raised_until, told_until
from upforgood.rows import stairs
from upforgood.texts import own_row
from upforgood.trees import Tree
from upforgood.wires import leasts

TELL = (("tell", 1, (2,), 2, 2, False), ("tell", 2, (1,), 2, 0, False))
WIRES = Tree(2, [(1, 2, ("wires", 2))])
LETTERS = Tree(2, [(1, 2, ("letters", 2, 1))])


def paper_of(tree, text, u, w):
    numbers = [number for _, number in own_row(tree, text, u, w)]
    spec = tree.spec(u, w)
    return (u, w, leasts(numbers) if spec[0] == "wires" else stairs(numbers, max(spec[1:])))


def as_tuples(value):
    return tuple(as_tuples(part) for part in value) if isinstance(value, (list, tuple)) else value


def near_misses(paper):
    """The same with one integer a little other, with 1 and 0 as True and False, and one item more or less."""
    u, w, table = paper
    found = [(w, u, table), (u, w + 1, table), (u - 1, w, table), (u, w), (u, w, table, table), [u, w, table], u, None, (None, w, table), (u, str(w), table)]
    found += [(u == 1, w, table), (u, w, None), (u, w, {}), (u, w, table[:-1]), (u, w, table[1:]), (u, w, table + table[-1:]), (u, w, []), (u, w, "no")]
    found += [(u, w, table + [None]), (u, w, [table])]
    for at, item in enumerate(table):
        for other in near_items(item):
            found.append((u, w, table[:at] + [other] + table[at + 1:]))
    return [miss for miss in found if repr(as_tuples(miss)) != repr(as_tuples(paper)) or isinstance(miss, list)]


def near_items(item):
    if isinstance(item, list):
        found = [None, 0, [], item[:-1], item + [item[-1]]]
        for at, least in enumerate(item):
            found += [item[:at] + [other] + item[at + 1:] for other in near_items(least)]
        return found
    if item is None:
        return [0, 1, 25, 9, [None], "None"]
    return [item - 1, item + 1, None, [item], str(item)] + ([bool(item)] if item in (0, 1) else [])


class Noes(Case):
    def test_lines_with_one_fewer(self):
        """The line that has one kind or wire fewer than it needs bars, alone or beside others."""
        many = 0
        for ends in range(2, 6):
            rng = random.Random(ends)
            for pairs in all_pairs(ends)[::1 if ends < 4 else 4 * ends - 10]:
                text = some_text(rng, ends, 4, 3)
                tree = just_enough(rng, ends, pairs, text)
                if tree is None:
                    continue
                self.same([no_paper(tree, text), papers(tree, text) is None], [None, False])
                lines = list(tree.lines)
                for at, (u, w, spec) in enumerate(tree.lines):
                    if fewer(spec) and rng.random() < 0.7:
                        lines[at] = (u, w, rng.choice(fewer(spec)))
                less = Tree(ends, lines)
                many += self.agrees(rng, less, text)
        self.assertGreater(many, 20)

    def agrees(self, rng, tree, text):
        bars = [line[:2] for line in tree.lines if not line_told(tree, text, line)]
        self.same(barred(tree, text), bars)
        self.same([(papers(tree, text) is None), can_keep(tree, text)], [bars != [], bars == []])
        found = no_paper(tree=tree, text=text)
        self.same(found, paper_of(tree, text, *bars[0]) if bars else None)
        for u, w, _ in tree.lines:
            paper = paper_of(tree, text, u, w)
            self.same(is_no_paper(tree, text, paper), (u, w) in bars)
            self.same(is_no_paper(tree, text, (u, w, as_tuples(paper[2]))), (u, w) in bars)
            for miss in rng.sample(near_misses(paper), 12):
                self.same(is_no_paper(tree, text, miss), False)
        return len(bars)

    def test_near_misses(self):
        chain = Tree(3, [(1, 2, ("wires", 3)), (2, 3, ("letters", 3, 1))])
        across = (("tell", 1, (3,), 4, 3, False), ("tell", 3, (1, 2), 2, 0, False))
        for tree, text in [(WIRES, TELL), (LETTERS, TELL), (chain, across), (Tree(2, [(1, 2, ("letters", 0, 0))]), TELL)]:
            self.same(can_keep(tree, text), False)
            for u, w in barred(tree, text):
                paper = paper_of(tree, text, u, w)
                self.same(is_no_paper(tree=tree, text=text, value=paper), True)
                for miss in near_misses(paper):
                    self.same(is_no_paper(tree, text, miss), False)

    def test_lists_and_tuples_at_each_level(self):
        self.same([is_no_paper(WIRES, TELL, (1, 2, [3, 2, 0])), is_no_paper(WIRES, TELL, (1, 2, (3, 2, 0)))], [True, True])
        rows = [[None, None, 2], [None, None, 0], [0, 0, 0]]
        for table in [rows, tuple(rows), [tuple(row) for row in rows], as_tuples(rows), [rows[0], tuple(rows[1]), rows[2]]]:
            self.same(is_no_paper(LETTERS, TELL, (1, 2, table)), True)
            self.same(is_no_paper(LETTERS, TELL, [1, 2, table]), False)
            self.same(is_no_paper(LETTERS, TELL, (2, 1, table)), False)
        self.same(is_no_paper(LETTERS, TELL, (1, 2, [[None, None, 2], [None, None, False], [0, 0, 0]])), False)
        self.same(is_no_paper(WIRES, TELL, (1, 2, [3, 2, False])), False)
        self.same(is_no_paper(WIRES, TELL, (True, 2, [3, 2, 0])), False)

    def test_any_values(self):
        for tree in [WIRES, LETTERS]:
            for value in NO_INTEGERS + NO_LISTS + [(1, 2, value) for value in NO_INTEGERS + NO_LISTS] + [(value, 2, [3, 2, 0]) for value in NO_INTEGERS]:
                self.same(is_no_paper(tree, TELL, value), False)

    def test_more_than_24_wires(self):
        text = (("tell", 1, (2,), 10 ** 12, 2, False), ("tell", 2, (1,), 10 ** 12, 0, False))
        found = no_paper(Tree(2, [(1, 2, ("wires", 10))]), text)
        self.same(found, (1, 2, leasts([10 ** 12, 10 ** 12])))
        self.same([found[2][0], is_no_paper(Tree(2, [(1, 2, ("wires", 10))]), text, found)], [None, True])
        found[2].append(0)
        self.same(no_paper(Tree(2, [(1, 2, ("wires", 0))]), text), (1, 2, leasts([10 ** 12, 10 ** 12])))

    def test_wrong_texts(self):
        for wrong in NO_LISTS + [(), [], list(TELL), TELL[1:] + TELL[1:], (TELL,)]:
            self.refused(InvalidText, wrong, no_paper, WIRES, wrong)
            self.refused(InvalidText, wrong, is_no_paper, WIRES, wrong, None)


class Until(Case):
    def test_letters(self):
        rows = [list(row) for many in range(4) for row in product([1, 2, 3, 7], repeat=many)]
        for row in rows:
            for own, other in product(range(4), repeat=2):
                self.agrees(row, own, other)

    def agrees(self, row, own, other):
        told = [many for many in range(len(row) + 1) if told_by_splits(tuple(row[:many]), own, other)]
        self.assertEqual(told, list(range(len(told))))
        self.same(told_until(row, own, other), told[-1])
        self.same(told_until(row=tuple(row), own=own, other=other), told[-1])

    def test_long_rows_on_letters(self):
        for row in LONG_ROWS:
            for own, other in [(0, 0), (16, 16), (16, 0), (0, 16), (16, 15), (15, 16), (8, 8), (16, 4), (5, 12), (10, 9), (1, 1)]:
                self.agrees(row, own, other)
        self.same([told_until([1] * 16, 16, 16), told_until([1] * 16, 8, 8), told_until([1] * 16, 8, 7), told_until([1] * 16, 7, 8)], [16, 16, 15, 14])

    def test_wires(self):
        rows = [row for many in range(4) for row in product([1, 2, 3, 5, 8, 21], repeat=many)]
        for row in rows + [tuple(row) for row in LONG_ROWS_ON_WIRES]:
            for wires in range(8) if len(row) < 4 else range(0, 25, 3):
                told = [many for many in range(len(row) + 1) if told_by_use(row[:many], wires)]
                self.assertEqual(told, list(range(len(told))))
                self.same(raised_until(row=list(row), wires=wires), told[-1])
        self.same([raised_until([1] * 16, 24), raised_until((1,) * 16, 15), raised_until([1] * 16, 0), raised_until([], 24)], [16, 15, 0, 0])

    def test_wrong(self):
        for wrong in WRONG_ROWS:
            self.refused(InvalidRow, wrong, told_until, wrong, -1, -1)
            self.refused(InvalidRow, wrong, raised_until, wrong, -1)
        for wrong in BESIDE_0_TO_16:
            self.refused(InvalidOwn, wrong, told_until, [1], wrong, -1)
            self.refused(InvalidOther, wrong, told_until, [1], 16, wrong)
        for wrong in BESIDE_0_TO_24:
            self.refused(InvalidWires, wrong, raised_until, [1], wrong)


if __name__ == "__main__":
    unittest.main()
