"""Points 7 and 91 to 93: texts that can be kept, papers, lines that bar, and what steps use."""

import random
import unittest

from tests.helper import NO_INTEGERS, NO_LISTS, Case
from tests.lots import all_pairs, bare_tree, fewer, just_enough, least_specs, row_on, some_paper, some_pairs, some_text, with_more
from tests.test_rows import told_by_splits
from tests.test_wires import told_by_use, used_by
from upforgood.errors import InvalidAt, InvalidPaper, InvalidText
from upforgood.keeping import barred, can_keep, is_paper, papers, uses
from upforgood.rows import fits
from upforgood.texts import own_row
from upforgood.trees import Tree, beyond
from upforgood.wires import raise_fits

ROOMY = [(1, 2, ("letters", 8, 8)), (2, 3, ("wires", 10)), (2, 4, ("letters", 8, 8)), (4, 5, ("wires", 10))]
FIVE = Tree(5, ROOMY)
TEXT = (
    ("ask", 1, (2, 5), 2, (3, 2), False), ("tell", 1, (3, 4), 4, 5, True), ("deal", 5, (1, 3), (2, 2), 3, False), ("tell", 3, (2,), 3, 0, False),
)


def line_told(tree, text, line):
    """Whether a line can tell its own row, by point 7."""
    u, w, spec = line
    row = own_row(tree, text, u, w)
    numbers = tuple(number for _, number in row)
    if spec[0] == "wires":
        return told_by_use(numbers, spec[1])
    if row and row[0][0] == w:
        return told_by_splits(numbers, spec[2], spec[1])
    return told_by_splits(numbers, spec[1], spec[2])


class CanKeep(Case):
    def test_just_enough_and_one_fewer(self):
        for ends in range(2, 6):
            rng = random.Random(ends)
            for pairs in all_pairs(ends)[::1 if ends < 5 else 5]:
                text = some_text(rng, ends, 4, 4)
                tree = just_enough(rng, ends, pairs, text)
                if tree is None:
                    continue
                self.agrees(tree, text)
                self.same([can_keep(tree, text), barred(tree, text)], [True, []])
                for at, (u, w, spec) in enumerate(tree.lines):
                    for less in fewer(spec):
                        other = Tree(ends, tree.lines[:at] + ((u, w, less),) + tree.lines[at + 1:])
                        self.agrees(other, text)
                        self.same([can_keep(other, text), barred(other, text)], [False, [(u, w)]])

    def test_some_lots(self):
        rng = random.Random(91)
        for _ in range(150):
            ends = rng.randint(2, 5)
            lines = []
            for u, w in some_pairs(rng, ends):
                letters = ("letters", rng.randint(0, 8), rng.randint(0, 8))
                lines.append((u, w, rng.choice([letters, ("wires", rng.randint(0, 10))])))
            self.agrees(Tree(ends, lines), some_text(rng, ends, rng.choice([1, 3]), rng.choice([1, 2, 6])))

    def agrees(self, tree, text):
        expected = [line[:2] for line in tree.lines if not line_told(tree, text, line)]
        self.same(barred(tree, text), expected)
        self.same(can_keep(tree, text), expected == [])
        paper = papers(tree, text)
        self.same(papers(tree, text), paper)
        if expected:
            self.assertIsNone(paper)
        else:
            self.same(is_paper(tree, text, paper), True)
            self.same(is_paper(tree, text, tuple(paper)), True)
            self.assertIs(type(paper), list)

    def test_each_spec_that_is_just_enough(self):
        text = (("ask", 1, (2,), 3, (4,), True), ("tell", 1, (2,), 3, 2, False))
        found = least_specs(row_on(2, [(1, 2)], text, 1, 2), 1)
        self.assertGreater(len(found), 2)
        for spec in found:
            self.same(can_keep(Tree(2, [(1, 2, spec)]), text), True)
            for less in fewer(spec):
                self.same(can_keep(Tree(2, [(1, 2, less)]), text), False)

    def test_the_first_speaker_is_the_greater_end(self):
        text = (("tell", 2, (1,), 6, 2, False),)
        self.same([can_keep(Tree(2, [(1, 2, ("letters", 2, 3))]), text), can_keep(Tree(2, [(1, 2, ("letters", 3, 2))]), text)], [True, False])
        paper = papers(Tree(2, [(1, 2, ("letters", 2, 3))]), text)
        self.same(paper, [((1, 1), (1,))])

    def test_an_end_costs_a_value(self):
        for value, ends, expected in [(6, False, True), (5, True, True), (6, True, False)]:
            self.same(can_keep(Tree(2, [(1, 2, ("letters", 4, 0))]), (("tell", 1, (2,), value, 0, ends),)), expected)

    def test_lines_of_which_nothing_is_asked(self):
        tree = Tree(3, [(1, 2, ("letters", 1, 0)), (2, 3, ("wires", 0))])
        text = (("tell", 1, (2,), 1, 0, False),)
        self.same([can_keep(tree, text), papers(tree, text), barred(tree, text)], [True, [((1,),), ()], []])
        self.same([is_paper(tree, text, [((1,),), ()]), is_paper(tree, text, [((1,),), ((1,),)]), is_paper(tree, text, [((1,),), None])], [True, False, False])
        self.same(uses(tree, text, [((1,),), ()], 0), [(1, 0), (0, 0)])

    def test_the_greatest(self):
        text = (("deal", 1, (2, 3, 4, 5), (10 ** 12,) * 4, 0, True),)
        self.same([can_keep(FIVE, text), barred(FIVE, text), papers(FIVE, text)], [False, [(1, 2), (2, 3), (2, 4), (4, 5)], None])
        self.same(can_keep(FIVE, (("tell", 1, (2,), 10 ** 12, 1, False),) * 8), False)

    def test_invalid_text(self):
        for wrong in [(), [TEXT[0]], None, TEXT[1:2] + TEXT, "tell"]:
            for call in [can_keep, papers, barred, lambda tree, text: is_paper(tree, text, None), lambda tree, text: uses(tree, text, None, -1)]:
                self.refused(InvalidText, wrong, call, FIVE, wrong)

    def test_by_name(self):
        paper = papers(tree=FIVE, text=TEXT)
        self.same([can_keep(tree=FIVE, text=TEXT), barred(tree=FIVE, text=TEXT), is_paper(tree=FIVE, text=TEXT, value=paper)], [True, [], True])
        self.same(uses(tree=FIVE, text=TEXT, value=paper, at=0), uses(FIVE, TEXT, paper, 0))

    def test_what_is_returned_is_new(self):
        found = [papers(FIVE, TEXT), uses(FIVE, TEXT, papers(FIVE, TEXT), 1), barred(bare_tree(5, [line[:2] for line in ROOMY]), TEXT)]
        for part in found:
            part.append(1)
        again = [papers(FIVE, TEXT), uses(FIVE, TEXT, papers(FIVE, TEXT), 1), barred(bare_tree(5, [line[:2] for line in ROOMY]), TEXT)]
        for part, other in zip(found, again):
            self.same(part[:-1], other)


class IsPaper(Case):
    def test_no_papers(self):
        paper = papers(FIVE, TEXT)
        wrong = NO_LISTS + [
            [], paper[:3], paper[1:], paper + [()], paper[:3] + [None], [list(plan) for plan in paper], paper[::-1], [paper], paper[:3] + [[]],
            paper[:3] + [paper[3] + ((1,),)], paper[:3] + [paper[3][1:]], [paper[0] + ((1,),)] + paper[1:], [((9,),) + paper[0][1:]] + paper[1:],
            [((0,),) + paper[0][1:]] + paper[1:], [((),) + paper[0][1:]] + paper[1:], [((True,),) + paper[0][1:]] + paper[1:],
        ]
        for value in wrong:
            self.same(is_paper(FIVE, TEXT, value), False)
            self.refused(InvalidPaper, value, uses, FIVE, TEXT, value, 0)
            self.refused(InvalidPaper, value, uses, FIVE, TEXT, value, None)

    def test_each_plan_has_to_fit(self):
        rng = random.Random(92)
        right = wrong = 0
        for _ in range(300):
            ends = rng.randint(2, 4)
            pairs = some_pairs(rng, ends)
            text = some_text(rng, ends, 3, 4)
            tree = just_enough(rng, ends, pairs, text)
            if tree is None:
                continue
            paper = some_paper(rng, tree, text)
            self.same(is_paper(tree, text, paper), True)
            other = with_more(rng, tree)
            for at, plan in enumerate(some_paper(rng, other, text)):
                changed = paper[:at] + [plan] + paper[at + 1:]
                expected = self.fits_line(tree, text, tree.lines[at], plan)
                right, wrong = right + int(expected), wrong + int(not expected)
                self.same(is_paper(tree, text, changed), expected)
        self.assertTrue(right > 20 and wrong > 20)

    def fits_line(self, tree, text, line, plan):
        u, w, spec = line
        row = own_row(tree, text, u, w)
        numbers = [number for _, number in row]
        if spec[0] == "wires":
            return raise_fits(numbers, spec[1], plan)
        own, other = (spec[2], spec[1]) if row and row[0][0] == w else spec[1:]
        return fits(numbers, own, other, plan)


class Uses(Case):
    def test_adds_up_to_the_plans(self):
        rng = random.Random(93)
        for _ in range(100):
            ends = rng.randint(2, 5)
            text = some_text(rng, ends, 4, 3)
            tree = just_enough(rng, ends, some_pairs(rng, ends), text)
            if tree is None:
                continue
            tree = with_more(rng, tree)
            paper = some_paper(rng, tree, text)
            used = [uses(tree, text, paper, at) for at in range(len(text))]
            for at, (u, w, spec) in enumerate(tree.lines):
                both = [sum(part[at][side] for part in used) for side in (0, 1)]
                if spec[0] == "wires":
                    self.assertEqual(sum(both), sum(used_by(sizes) for sizes in paper[at]))
                self.steps_one_by_one(tree, text, (u, w), paper[at], [part[at] for part in used])

    def steps_one_by_one(self, tree, text, pair, plan, used):
        """Point 93 by the own rows of the steps, each of them as a text of its own."""
        u, w = pair
        begun = 0
        for at, step in enumerate(text):
            expected = {u: 0, w: 0}
            for end, _ in own_row(tree, (step,), u, w):
                expected[end] += sum(plan[begun])
                expected[u + w - end] += len(plan[begun]) - 1
                begun += 1
            self.same(used[at], (expected[u], expected[w]))
        self.assertEqual(begun, len(plan))

    def test_word_by_word(self):
        tree = Tree(3, [(1, 2, ("letters", 8, 8)), (2, 3, ("wires", 10))])
        text = (("tell", 3, (1,), 6, 3, False), ("ask", 3, (2,), 2, (5,), False), ("tell", 3, (2,), 1, 1, False))
        paper = [((1, 1, 2), (3, 1), (1,)), ((1, 1), (1,), (2,), (2,), (1,))]
        self.same(is_paper(tree, text, paper), True)
        self.same([uses(tree, text, paper, at) for at in range(3)], [[(6, 5), (2, 2)], [(0, 0), (2, 2)], [(0, 1), (0, 1)]])
        self.assertEqual(beyond(tree, 2, 3), [3])

    def test_invalid_at(self):
        paper = papers(FIVE, TEXT)
        for wrong in [-1, 4, 10 ** 20] + NO_INTEGERS:
            self.refused(InvalidAt, wrong, uses, FIVE, TEXT, paper, wrong)
        for at in range(4):
            self.same(uses(FIVE, TEXT, tuple(paper), at), uses(FIVE, TEXT, paper, at))


if __name__ == "__main__":
    unittest.main()
