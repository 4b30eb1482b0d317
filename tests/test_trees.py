"""Points 4, 51 and 52: trees, their lines and the ways along them."""

import unittest
from itertools import combinations, permutations

from tests.helper import NO_INTEGERS, NO_LISTS, Case
from upforgood.errors import InvalidEnd, InvalidEnds, InvalidLines, NoLine
from upforgood.trees import Tree, beyond, path

SPECS = [("letters", 3, 1), ("wires", 4), ("letters", 0, 8), ("wires", 0)]


def parts(ends, pairs):
    """The part that each end hangs together with, as the least end of it."""
    found = {end: end for end in range(1, ends + 1)}
    for u, w in pairs:
        old, new = max(found[u], found[w]), min(found[u], found[w])
        found = {end: new if part == old else part for end, part in found.items()}
    return found


def all_trees(ends):
    """The pairs of all trees of so many ends."""
    pairs = list(combinations(range(1, ends + 1), 2))
    for chosen in combinations(pairs, ends - 1):
        yield chosen, set(parts(ends, chosen).values()) == {1}


def with_specs(pairs):
    return [(u, w, SPECS[at]) for at, (u, w) in enumerate(pairs)]


class Trees(Case):
    def test_all_of_two_to_five_ends(self):
        counts = []
        for ends in range(2, 6):
            found = 0
            for pairs, joins in all_trees(ends):
                lines = with_specs(pairs)
                if not joins:
                    self.refused(InvalidLines, lines, Tree, ends, lines)
                    continue
                found += 1
                tree = Tree(ends, lines)
                self.same((tree.ends, tree.lines), (ends, tuple(lines)))
                for end in range(1, ends + 1):
                    near = sorted([u + w - end for u, w in pairs if end in (u, w)])
                    self.same(tree.neighbours(end), near)
            counts.append(found)
        self.assertEqual(counts, [1, 3, 16, 125])

    def test_any_order(self):
        lines = with_specs([(1, 3), (2, 3), (3, 4), (4, 5)])
        tree = Tree(5, lines)
        for order in permutations(lines):
            for passed in [list(order), tuple(order)]:
                other = Tree(ends=5, lines=passed)
                self.same(other.lines, tuple(lines))
                self.same([tree == other, tree != other], [True, False])

    def test_equal(self):
        tree = Tree(3, with_specs([(1, 2), (2, 3)]))
        others = [
            Tree(3, with_specs([(1, 2), (1, 3)])), Tree(3, with_specs([(2, 3), (1, 2)])),
            Tree(2, with_specs([(1, 2)])), Tree(3, [(1, 2, ("letters", 3, 1)), (2, 3, ("wires", 5))]), None, tree.lines, 3,
        ]
        for other in others:
            self.same([tree == other, tree != other, other == tree], [False, True, False])

    def test_spec(self):
        tree = Tree(4, with_specs([(2, 4), (1, 4), (3, 4)]))
        self.same([tree.spec(2, 4), tree.spec(4, 2), tree.spec(4, 1)], [SPECS[0], SPECS[0], SPECS[1]])
        self.same([tree.spec(u=3, w=4), tree.spec(w=3, u=4), tree.neighbours(end=4)], [SPECS[2], SPECS[2], [1, 2, 3]])

    def test_lists_are_new_and_what_is_passed_is_kept_as_it_is(self):
        lines = with_specs([(2, 3), (1, 2)])
        tree = Tree(3, lines)
        self.assertEqual(lines, with_specs([(2, 3), (1, 2)]))
        lines[0] = (1, 3, ("wires", 1))
        tree.neighbours(2).append(7)
        path(tree, 1, 3).append(7)
        beyond(tree, 1, 2).append(7)
        self.same([tree.lines[1], tree.neighbours(2)], [(2, 3, SPECS[0]), [1, 3]])
        self.same([path(tree, 1, 3), beyond(tree, 1, 2)], [[1, 2, 3], [2, 3]])


class Refused(Case):
    def test_ends(self):
        for wrong in [1, 0, 6, -2, 10 ** 20] + NO_INTEGERS:
            self.refused(InvalidEnds, wrong, Tree, wrong, [(1, 2, ("wires", 1))])
            self.refused(InvalidEnds, wrong, Tree, wrong, None)

    def test_lines_left_out_more_and_double(self):
        right = with_specs([(1, 2), (2, 3), (3, 4)])
        wrong = [
            [], right[:2], right[1:], right + [(1, 4, ("wires", 1))], right[:2] + right[:1], right + right[:1],
            with_specs([(1, 2), (2, 3), (1, 3)]), with_specs([(1, 2), (1, 2), (3, 4)]),
            right[:2] + [(1, 2, ("wires", 9))], right[:2] + [(2, 3, ("wires", 9))],
        ]
        for lines in wrong:
            self.refused(InvalidLines, lines, Tree, 4, lines)
        self.assertEqual(Tree(4, right).ends, 4)

    def test_each_part_of_a_line(self):
        spec = ("wires", 2)
        wrong = NO_LISTS + [
            (), (1, 2), (1, 2, spec, spec), [1, 2, spec], (2, 1, spec), (1, 1, spec), (2, 2, spec), (0, 2, spec),
            (1, 3, spec), (-1, 2, spec), (1, 2, None), (1, 2, ["wires", 2]), (1, 2, ("wires", 11)), (1, 2, ("wires", True)),
            (1, 2, ("letters", 9, 0)), (1, 2, ()), (spec, 2, 1), ((1, 2), spec),
        ]
        wrong += [(part, 2, spec) for part in NO_INTEGERS] + [(1, part, spec) for part in NO_INTEGERS]
        for line in wrong:
            lines = [line]
            self.refused(InvalidLines, lines, Tree, 2, lines)
        for lines in NO_LISTS + [(1, 2, spec), "12"]:
            self.refused(InvalidLines, lines, Tree, 2, lines)
        self.same(Tree(2, ((1, 2, spec),)).lines, ((1, 2, spec),))

    def test_ends_of_a_tree(self):
        tree = Tree(3, with_specs([(1, 2), (2, 3)]))
        for wrong in [0, 4, -1, 10 ** 20] + NO_INTEGERS:
            self.refused(InvalidEnd, wrong, tree.neighbours, wrong)
            for call in [tree.spec, lambda u, w: path(tree, u, w), lambda u, w: beyond(tree, u, w)]:
                self.refused(InvalidEnd, wrong, call, wrong, 1)
                self.refused(InvalidEnd, wrong, call, wrong, -5)
                self.refused(InvalidEnd, wrong, call, 1, wrong)

    def test_no_line(self):
        tree = Tree(3, with_specs([(1, 2), (2, 3)]))
        for u, w in [(1, 3), (3, 1), (1, 1), (2, 2)]:
            self.refused_with(NoLine, {"u": u, "w": w}, tree.spec, u, w)
            self.refused_with(NoLine, {"u": u, "w": w}, beyond, tree, u, w)


class Ways(Case):
    def test_all_trees(self):
        for ends in range(2, 6):
            for pairs, joins in all_trees(ends):
                if joins:
                    self.ways(ends, pairs, Tree(ends, with_specs(pairs)))

    def ways(self, ends, pairs, tree):
        for u in range(1, ends + 1):
            for w in range(1, ends + 1):
                way = path(tree, u, w)
                self.assertIs(type(way), list)
                self.assertEqual((way[0], way[-1], len(set(way))), (u, w, len(way)))
                for at in range(len(way) - 1):
                    self.assertIn((min(way[at:at + 2]), max(way[at:at + 2])), pairs)
        for u, w in pairs:
            left = parts(ends, [pair for pair in pairs if pair != (u, w)])
            side = [[end for end in range(1, ends + 1) if left[end] == left[near]] for near in (u, w)]
            self.same([beyond(tree, w, u), beyond(tree, u, w)], side)

    def test_named(self):
        tree = Tree(2, with_specs([(1, 2)]))
        self.same([path(tree=tree, u=2, w=2), beyond(tree=tree, u=2, w=1)], [[2], [1]])


if __name__ == "__main__":
    unittest.main()
