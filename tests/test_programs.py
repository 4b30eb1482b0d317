"""Points 6 and 61 to 63: standings, events, tables and folded programs."""

import unittest

from tests.helper import NO_INTEGERS, NO_LISTS, Case
from upforgood.errors import InvalidFolds, InvalidRows, InvalidStanding, TalkError
from upforgood.lines import Line
from upforgood.programs import Folded, Table
from upforgood.trees import Tree

HANDED, COMES = ("handed", 0), ("comes", 2, 1)
SOME_SENDS = ((2, 1), (3, -7), (2, 1))
SOME_SAYS = (("decides", 4), ("decides", "end"), ("done",), ("answers", (0, 5)), ("answers", (1,)))
ROWS = {("a", HANDED): ("b", SOME_SENDS, ()), ("b", COMES): (("b", 1, ()), (), SOME_SAYS), (0, COMES): (0, (), ())}


def nested(deep, inside=None):
    """As many tuples within one another."""
    value = () if inside is None else (inside,)
    for _ in range(deep - 1):
        value = (value,)
    return value


RIGHT_STANDINGS = ["", "a", "two words", 0, -1, 10 ** 60, (), (1,), ("a", ()), ((), (1, ("b",)), "c"), nested(6), nested(6, "in"), (1, nested(5), 2)]
WRONG_STANDINGS = [
    None, True, False, [], {}, [1], (None,), (True,), ("a", False), ("a", []), ((("a", [1]),),), ({},), nested(7), nested(7, 1), nested(10),
    (1, nested(6)), (nested(5), nested(6)), TalkError(), (TalkError(),), Line(("wires", 1)),
]
RIGHT_EVENTS = [("handed", 0), ("handed", -5), ("handed", 10 ** 48), ("comes", 1, 2), ("comes", -1, 0), ("comes", 10 ** 20, 10 ** 20)]
WRONG_EVENTS = [
    (), ("handed",), ("comes",), ("handed", 1, 2), ("comes", 1), ("comes", 1, 2, 3), ("handed", "1"), ("handed", None),
    ("handed", True), ("handed", (1,)), ("comes", True, 1), ("comes", 1, False), ("comes", None, 1), ("comes", "1", 1),
    ("comes", 1, "1"), ("goes", 1), ("Handed", 1), (0, 1), (None, 1), (("handed",), 1), "handed", 0, None, True,
    ("done",), ("decides", 1), ("hand", 1),
]
WRONG_SENDS = NO_LISTS + [
    [], [(2, 1)], ([2, 1],), ((2,),), ((2, 1, 1),), (2, 1), ((2, 1), ()), ((2, True),), ((False, 1),), ((2, "1"),), ((None, 1),),
    ((2, 1), None), ((2, (1,)),), (((2, 1),),), ("21",),
]
WRONG_SAYS = NO_LISTS + [
    [], [("done",)], (["done"],), ("done",), (("done", 1),), (("decides",),), (("decides", "End"),), (("decides", ""),), (("decides", None),),
    (("decides", True),), (("decides", 1, 2),), (("decides", (1,)),), (("decides", ("end",)),), (("answers",),), (("answers", ()),),
    (("answers", [1]),), (("answers", 1),), (("answers", (1, True)),), (("answers", ("1",)),), (("answers", (1,), 2),), (("answers", (1, None)),),
    (("answers", "end"),), (("answers", ("end",)),), ((),), (("done",), None), (("done",), ()), (("says", 1),), ((1,),), (("Done",),), (("end",),),
    ((("done",),),),
]


class Standings(Case):
    def test_right(self):
        for standing in RIGHT_STANDINGS:
            table = Table(standing, {(standing, HANDED): (standing, (), ())})
            self.same(table.first(), standing)
            self.same(table.step(standing, HANDED), (standing, (), ()))

    def test_wrong(self):
        for wrong in WRONG_STANDINGS:
            self.refused(InvalidStanding, wrong, Table, wrong, {})
            self.refused(InvalidStanding, wrong, Table, wrong, None)
            self.refused(InvalidStanding, wrong, Table, wrong, {at: 1 for at in range(401)})


class Rows(Case):
    def test_right(self):
        table = Table(first="a", rows=ROWS)
        self.same([table.first(), table.rows()], ["a", ROWS])
        self.same(table.step("a", HANDED), ("b", SOME_SENDS, ()))
        self.same(table.step(standing="b", event=COMES), (("b", 1, ()), (), SOME_SAYS))
        for event in RIGHT_EVENTS:
            self.same(Table(0, {(0, event): (1, (), ())}).step(0, event), (1, (), ()))

    def test_no_row(self):
        table = Table("a", ROWS)
        for standing in RIGHT_STANDINGS:
            for event in RIGHT_EVENTS[1:]:
                self.same(table.step(standing, event), (standing, (), ()))
                self.same(Table(0, {}).step(standing, event), (standing, (), ()))
        self.same(table.step("b", HANDED), ("b", (), ()))

    def test_how_many(self):
        for many in [0, 1, 399, 400]:
            rows = {(at, HANDED): (at, (), ()) for at in range(many)}
            self.assertEqual(len(Table("a", rows).rows()), many)
        for many in [401, 402, 500]:
            self.too_many(many, Table, "a", {(at, HANDED): (at, (), ()) for at in range(many)})
            self.too_many(many, Table, "a", {at: None for at in range(many)})
        self.refused(InvalidRows, "a" * 401, Table, "a", "a" * 401)
        rows = [((at, HANDED), (at, (), ())) for at in range(401)]
        self.refused(InvalidRows, rows, Table, "a", rows)

    def wrong_row(self, key, row):
        for rows in [{key: row}, {**ROWS, key: row}, {key: row, **ROWS}]:
            self.refused(InvalidRows, rows, Table, "a", rows)

    def test_no_dict(self):
        for wrong in NO_LISTS[:8] + [[], (), [1], list(ROWS.items()), InvalidRows(ROWS), Line(("wires", 1))]:
            self.refused(InvalidRows, wrong, Table, "a", wrong)

    def test_keys(self):
        keys = ["", "a", 0, 1, None, True, (), ("a",), (HANDED,), ("a", HANDED, 1), (HANDED, "a"), TalkError(), Line(("wires", 1)), ("a", Line(("wires", 1)))]
        keys += [("a", event) for event in WRONG_EVENTS]
        keys += [(standing, HANDED) for standing in [None, True, False, (None,), (True,), nested(7), (1, nested(6)), TalkError()]]
        for key in keys:
            self.wrong_row(key, ("b", (), ()))

    def test_values(self):
        for row in NO_LISTS + [(), ("b",), ("b", ()), ("b", (), (), ()), ["b", (), ()], [], ("b", (), [])]:
            self.wrong_row(("c", HANDED), row)
        for wrong in WRONG_STANDINGS:
            self.wrong_row(("c", HANDED), (wrong, (), ()))
        for wrong in WRONG_SENDS:
            self.wrong_row(("c", HANDED), ("b", wrong, ()))
        for wrong in WRONG_SAYS:
            self.wrong_row(("c", HANDED), ("b", (), wrong))

    def test_dicts_are_not_kept(self):
        rows = dict(ROWS)
        table = Table("a", rows)
        self.same(rows, ROWS)
        rows[("a", HANDED)] = ("changed", (), ())
        rows[("z", HANDED)] = ("more", (), ())
        told = table.rows()
        told.clear()
        table.rows()[("y", HANDED)] = ("more", (), ())
        self.same(table.rows(), ROWS)
        self.same([table.step("a", HANDED)[0], table.step("z", HANDED)[0], table.step("y", HANDED)[0]], ["b", "z", "y"])

    def test_equal(self):
        table = Table("a", ROWS)
        other = Table("a", dict(list(ROWS.items())[::-1]))
        self.same([table == other, table != other], [True, False])
        less = {key: ROWS[key] for key in list(ROWS)[1:]}
        changed = {**ROWS, (0, COMES): (0, (), (("done",),))}
        tree = Tree(2, [(1, 2, ("wires", 1))])
        for other in [Table("b", ROWS), Table("a", less), Table("a", changed), Folded(table, []), None, ROWS, "a", tree]:
            self.same([table == other, table != other, other == table], [False, True, False])


class Folds(Case):
    def folded(self, folds, sends):
        table = Table("a", {("a", HANDED): ("b", sends, SOME_SAYS)})
        standing, told, says = Folded(table, folds).step("a", HANDED)
        self.same([standing, says], ["b", SOME_SAYS])
        return told

    def test_kinds(self):
        sends = tuple([(2, kind) for kind in range(1, 11)])
        for many in range(1, 11):
            expected = tuple([(2, kind) for kind in range(1, many + 1)])
            self.same(self.folded([(2, many)], sends), expected)
        self.same(self.folded([(2, 0)], sends), ())
        self.same(self.folded([(1, 2)], sends), sends)
        self.same(self.folded([], sends), sends)
        for kind, expected in [(4, 1), (5, 2), (6, 3), (7, 1), (0, 3), (-1, 2), (10 ** 12, 1)]:
            self.same(self.folded([(2, 3)], ((2, kind),)), ((2, expected),))

    def test_sends_that_become_equal(self):
        sends = ((2, 5), (3, 1), (2, 2), (3, 3), (2, 1), (3, 1), (2, 4), (4, 9), (4, 9), (4, 8))
        self.same(self.folded([(2, 3)], sends), ((2, 2), (3, 1), (3, 3), (2, 1), (4, 9), (4, 8)))
        self.same(self.folded(((2, 3), (3, 2)), sends), ((2, 2), (3, 1), (2, 1), (4, 9), (4, 8)))
        self.same(self.folded([(2, 0), (3, 0), (4, 1)], sends), ((4, 1),))
        self.same(self.folded([], sends), ((2, 5), (3, 1), (2, 2), (3, 3), (2, 1), (2, 4), (4, 9), (4, 8)))

    def test_ends_that_nobody_folds(self):
        sends = ((0, 0), (-1, -4), (7, 10 ** 20), (0, 0))
        self.same(self.folded([(1, 0), (2, 0), (3, 0), (4, 0), (5, 0)], sends), sends[:3])

    def test_all_else_stays(self):
        table = Table("a", ROWS)
        folded = Folded(program=table, folds=[(2, 0)])
        self.same([folded.first(), folded.step("b", COMES)], ["a", table.step("b", COMES)])
        self.same(folded.step(standing=("x", ()), event=("handed", 3)), (("x", ()), (), ()))

    def test_folded_again(self):
        table = Table("a", {("a", HANDED): ("b", ((2, 1), (2, 2), (2, 3), (2, 4), (2, 5)), ())})
        twice = Folded(Folded(table, [(2, 4)]), [(2, 3)])
        self.same([twice.first(), twice.step("a", HANDED)], ["a", ("b", ((2, 1), (2, 2), (2, 3)), ())])
        self.same(Folded(Folded(table, [(2, 3)]), [(2, 0)]).step("a", HANDED), ("b", (), ()))

    def test_folds_are_not_kept(self):
        table = Table("a", {("a", HANDED): ("b", ((2, 4),), ())})
        folds = [(2, 3)]
        folded = Folded(table, folds)
        folds[0] = (2, 0)
        folds.append((3, 1))
        self.same(folded.step("a", HANDED), ("b", ((2, 1),), ()))
        self.same(table.step("a", HANDED), ("b", ((2, 4),), ()))

    def test_limits(self):
        table = Table("a", {})
        for folds in [[], (), [(at, 10) for at in range(1, 6)], ((5, 0), (1, 0)), [(1, 0)], [(5, 10)]]:
            self.same(Folded(table, folds).first(), "a")

    def test_wrong(self):
        wrong = NO_LISTS + [
            [(0, 1)], [(6, 1)], [(-1, 1)], [(1, -1)], [(1, 11)], [(2, 1), (2, 1)], [(2, 1), (3, 1), (2, 2)], [[2, 1]], ([2, 1],), (2, 1),
            [(2,)], [(2, 1, 1)], [()], [None], [(at, 1) for at in range(1, 7)], [(at, 1) for at in range(0, 5)], [(1, 1)] * 6, ["21"], [((2, 1),)],
        ]
        wrong += [[(part, 1)] for part in NO_INTEGERS] + [[(1, 1), (2, part)] for part in NO_INTEGERS]
        for folds in wrong:
            self.refused(InvalidFolds, folds, Folded, Table("a", {}), folds)


if __name__ == "__main__":
    unittest.main()
