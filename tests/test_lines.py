"""Points 3 and 41 to 43: lines that never forget."""

import unittest
from itertools import product

from tests.helper import NO_INTEGERS, NO_LISTS, Case
from upforgood.errors import InvalidKind, InvalidSide, InvalidSpec, NotSent
from upforgood.lines import Line, is_spec

WRONG_SPECS = NO_LISTS + [
    (), ("letters",), ("wires",), ("letters", 3), ("letters", 1, 2, 3), ("wires", 1, 2), ("wires", 1, 1),
    ["letters", 3, 1], ["wires", 2], ("letters", -1, 1), ("letters", 1, -1), ("letters", 9, 1), ("letters", 1, 9),
    ("wires", -1), ("wires", 11), ("letters", True, 1), ("letters", 1, False), ("wires", True), ("wires", "1"),
    ("letters", 1, None), ("letters", (1,), 1), ("wires", [1]), ("Letters", 1, 1), ("wire", 1), (1, 2), (None, 1, 1),
    (("wires", 1),), (("wires",), 1), (["letters"], 1, 1), ({}, 1), "wires", ("", 1),
]


def seen(line):
    """All that a line tells of itself."""
    told = [line.spec, line.left()]
    for side in [0, 1]:
        told += [line.kinds(side), line.sent(side), line.come_to(side), line.under_way(side), line.unsent(side)]
    return told


class Specs(Case):
    def test_right(self):
        for own, other in product(range(9), repeat=2):
            self.same(is_spec(("letters", own, other)), True)
        for wires in range(11):
            self.same(is_spec(("wires", wires)), True)

    def test_wrong(self):
        for wrong in WRONG_SPECS:
            self.same(is_spec(wrong), False)
            self.refused(InvalidSpec, wrong, Line, wrong)

    def test_names(self):
        self.assertTrue(is_spec(value=("wires", 0)))
        self.assertEqual(Line(spec=("wires", 0)).left(), (0,))


class Letters(Case):
    def test_new(self):
        line = Line(("letters", 8, 3))
        self.same(seen(line), [
            ("letters", 8, 3), (8, 3), 8, [], [], [], [1, 2, 3, 4, 5, 6, 7, 8], 3, [], [], [], [1, 2, 3],
        ])

    def test_sent_again_and_come_again(self):
        line = Line(("letters", 3, 2))
        self.same([line.send(0, 3), line.send(0, 1), line.send(0, 3)], [True, True, False])
        self.same([line.sent(0), line.unsent(0), line.left(), line.under_way(1)], [[1, 3], [2], (1, 2), [1, 3]])
        self.same([line.under_way(0), line.sent(1), line.come_to(1)], [[], [], []])
        self.same([line.come(1, 3), line.come(1, 3), line.under_way(1), line.come_to(1)], [True, False, [1], [3]])
        self.same([line.send(0, 3), line.under_way(1), line.sent(0)], [False, [1], [1, 3]])
        self.same([line.come(1, 1), line.come_to(1), line.come_to(0), line.left()], [True, [1, 3], [], (1, 2)])

    def test_both_sides_have_kinds_of_their_own(self):
        line = Line(("letters", 2, 2))
        self.same([line.send(0, 1), line.come(1, 1), line.send(1, 1), line.come(0, 1)], [True] * 4)
        self.same([line.sent(0), line.sent(1), line.come_to(0), line.come_to(1), line.left()], [[1], [1], [1], [1], (1, 1)])

    def test_no_kinds(self):
        line = Line(("letters", 0, 1))
        self.same([line.kinds(0), line.kinds(1), line.unsent(0), line.left()], [0, 1, [], (0, 1)])
        self.refused(InvalidKind, 1, line.send, 0, 1)
        self.refused(InvalidKind, 1, line.come, 1, 1)


class Wires(Case):
    def test_new(self):
        line = Line(("wires", 10))
        all_ten = [1, 2, 3, 4, 5, 6, 7, 8, 9, 10]
        self.same(seen(line), [("wires", 10), (10,), 10, [], [], [], all_ten, 10, [], [], [], all_ten])

    def test_a_wire_that_came_is_not_raised_again(self):
        line = Line(("wires", 2))
        self.same([line.send(1, 2), line.under_way(0), line.come(0, 2), line.send(0, 2)], [True, [2], True, False])
        self.same([line.sent(0), line.sent(1), line.come_to(0), line.unsent(0), line.left()], [[], [2], [2], [1], (1,)])

    def test_a_wire_that_both_raised(self):
        line = Line(("wires", 2))
        self.same([line.send(0, 1), line.send(1, 1), line.left()], [True, True, (1,)])
        self.same([line.under_way(0), line.under_way(1), line.come(0, 1), line.come(1, 1)], [[], [], False, False])
        self.same([line.come_to(0), line.come_to(1), line.sent(0), line.sent(1)], [[], [], [1], [1]])
        self.same([line.unsent(0), line.unsent(1), line.send(0, 1)], [[2], [2], False])

    def test_raised_by_the_other_side_while_under_way(self):
        line = Line(("wires", 3))
        self.same([line.send(0, 2), line.under_way(1), line.send(1, 2), line.under_way(1)], [True, [2], True, []])
        self.same([line.come(1, 2), line.left()], [False, (2,)])

    def test_no_wires(self):
        line = Line(("wires", 0))
        self.same([line.left(), line.unsent(0), line.unsent(1)], [(0,), [], []])
        self.refused(InvalidKind, 1, line.send, 0, 1)


class AgainstAModel(Case):
    """All sequences of a few sends and comes, against what point 3 says word by word."""

    def play(self, spec, length):
        moves = [(word, side, kind) for word in ["send", "come"] for side in [0, 1] for kind in [1, 2]]
        for chosen in product(moves, repeat=length):
            line = Line(spec)
            sent, came = [set(), set()], [set(), set()]
            for word, side, kind in chosen:
                up = spec[0] == "wires" and (kind in sent[side] or kind in came[side])
                if word == "send":
                    self.same(line.send(side, kind), not up and kind not in sent[side])
                    if not up:
                        sent[side].add(kind)
                elif kind not in sent[1 - side]:
                    self.refused_with(NotSent, {"kind": kind}, line.come, side, kind)
                else:
                    self.same(line.come(side, kind), not up and kind not in came[side])
                    if not up:
                        came[side].add(kind)
            self.assertEqual([line.sent(0), line.sent(1)], [sorted(sent[0]), sorted(sent[1])])
            self.assertEqual([line.come_to(0), line.come_to(1)], [sorted(came[0]), sorted(came[1])])
            left = (2 - len(sent[0]), 2 - len(sent[1])) if spec[0] == "letters" else (2 - len(sent[0] | sent[1]),)
            self.assertEqual(line.left(), left)
            for side in [0, 1]:
                up = sent[side] | came[side] if spec[0] == "wires" else came[side]
                self.assertEqual(line.under_way(side), sorted(sent[1 - side] - up))
                up = sent[side] | came[side] if spec[0] == "wires" else sent[side]
                self.assertEqual(line.unsent(side), sorted({1, 2} - up))

    def test_letters(self):
        self.play(("letters", 2, 2), 4)

    def test_wires(self):
        self.play(("wires", 2), 4)


class Refused(Case):
    def lines(self):
        for spec in [("letters", 2, 3), ("wires", 3)]:
            line = Line(spec)
            line.send(0, 1)
            line.send(1, 2)
            line.come(0, 2)
            yield line

    def test_sides(self):
        for line in self.lines():
            before = seen(line)
            for wrong in [-1, 2] + NO_INTEGERS:
                for call in [line.kinds, line.sent, line.come_to, line.under_way, line.unsent]:
                    self.refused(InvalidSide, wrong, call, wrong)
                for call in [line.send, line.come]:
                    self.refused(InvalidSide, wrong, call, wrong, 1)
                    self.refused(InvalidSide, wrong, call, wrong, 0)
            self.same(seen(line), before)

    def test_kinds(self):
        for line in self.lines():
            before = seen(line)
            for wrong in [0, -1, 4, 10 ** 20] + NO_INTEGERS:
                for side in [0, 1]:
                    self.refused(InvalidKind, wrong, line.send, side, wrong)
                    self.refused(InvalidKind, wrong, line.come, side, wrong)
            self.same(seen(line), before)

    def test_kinds_are_those_of_the_side_that_sends(self):
        line = Line(("letters", 2, 3))
        self.refused(InvalidKind, 3, line.send, 0, 3)
        self.refused(InvalidKind, 3, line.come, 1, 3)
        self.refused_with(NotSent, {"kind": 3}, line.come, 0, 3)
        self.same(line.send(1, 3), True)

    def test_not_sent(self):
        for line in self.lines():
            before = seen(line)
            self.refused_with(NotSent, {"kind": 2}, line.come, 1, 2)
            self.refused_with(NotSent, {"kind": 1}, line.come, 0, 1)
            self.same(seen(line), before)

    def test_names(self):
        line = Line(("wires", 2))
        self.assertTrue(line.send(side=0, kind=1))
        self.assertTrue(line.come(side=1, kind=1))
        self.assertEqual(line.kinds(side=0), 2)
        self.assertEqual([line.sent(side=0), line.come_to(side=1)], [[1], [1]])
        self.assertEqual([line.under_way(side=1), line.unsent(side=1)], [[], [2]])


class Copies(Case):
    def test_copies_go_on_apart(self):
        for spec in [("letters", 3, 3), ("wires", 3)]:
            line = Line(spec)
            line.send(0, 1)
            line.send(1, 3)
            line.come(1, 1)
            copy = line.copy()
            self.assertIs(type(copy), Line)
            self.same(seen(copy), seen(line))
            before = seen(line)
            copy.send(0, 2)
            copy.come(0, 3)
            self.same(seen(line), before)
            changed = seen(copy)
            line.come(0, 3)
            line.send(1, 2)
            self.same(seen(copy), changed)
            self.assertNotEqual(seen(line), changed)

    def test_lists_are_new(self):
        line = Line(("letters", 3, 3))
        line.send(0, 1)
        line.come(1, 1)
        line.send(1, 2)
        before = seen(line)
        for side in [0, 1]:
            for told in [line.sent(side), line.come_to(side), line.under_way(side), line.unsent(side)]:
                told.append(9)
        self.same(seen(line), before)


if __name__ == "__main__":
    unittest.main()
