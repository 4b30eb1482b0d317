"""Points 121 to 123: all runs of small lots of programs, and tables that do the same."""

import random
import unittest

from tests.helper import NO_INTEGERS, NO_LISTS, Case
from tests.lots import just_enough, some_pairs, some_text
from tests.programs_of import near_misses, right_tables, some_table
from tests.reference import search
from upforgood.ends import made
from upforgood.errors import InvalidMost, InvalidPrograms, InvalidText, TooMany
from upforgood.judging import judged, tabled
from upforgood.keeping import papers
from upforgood.programs import Folded, Table
from upforgood.trees import Tree
from upforgood.worlds import World, fault_of

TWO = Tree(2, [(1, 2, ("letters", 2, 0))])
BIT = (("tell", 1, (2,), 2, 0, False),)
IDLE = Table(0, {})


def lots(seed, many):
    """Small lots of a tree, a text and programs, right ones and others."""
    rng = random.Random(seed)
    found = 0
    while found < many:
        ends = rng.choice([2, 2, 3])
        text = some_text(rng, ends, 2, 3)
        tree = just_enough(rng, ends, some_pairs(rng, ends), text)
        if tree is None:
            continue
        programs = near_misses(rng, tree, text) if rng.random() < 0.7 else [some_table(rng, tree, end) for end in range(1, ends + 1)]
        if programs is not None:
            found += 1
            yield rng, tree, text, programs


class Judged(Case):
    def test_against_a_search(self):
        told = {None: 0, "early": 0, "wrong": 0, "never": 0}
        for rng, tree, text, programs in lots(121, 150):
            count, shortest, rows = search(tree, text, programs, 300)
            if count is None:
                self.too_many(301, judged, tree, text, programs, 300)
                self.too_many(301, tabled, tree, text, programs, 300)
                continue
            found = judged(tree, text, programs, 300)
            self.same(judged(tree, text, tuple(programs), count), found)
            if count > 1:
                self.too_many(count, judged, tree, text, programs, count - 1)
                self.too_many(count, tabled, tree, text, programs, count - 1)
            self.failing_run(tree, text, programs, found, shortest, told)
            self.tables(rng, tree, text, programs, rows)
        self.assertTrue(min(told.values()) > 4, told)

    def failing_run(self, tree, text, programs, found, shortest, told):
        if shortest is None:
            self.assertIsNone(found)
            told[None] += 1
            return
        self.assertIs(type(found), list)
        self.assertEqual(len(found), shortest)
        self.assertIsNone(fault_of(tree, text, programs, found[:-1]))
        fault = fault_of(tree, text, programs, found)
        self.assertIsNotNone(fault)
        told[fault] += 1

    def tables(self, rng, tree, text, programs, rows):
        """Point 123: the same entries, the same is sent and said, the same faults."""
        tables = tabled(tree, text, programs, 300)
        self.assertTrue(all(type(table) is Table for table in tables))
        self.assertEqual([len(table.rows()) for table in tables], [len(rows[end]) for end in range(1, tree.ends + 1)])
        self.assertEqual(search(tree, text, tables, 300)[:2], search(tree, text, programs, 300)[:2])
        for _ in range(3):
            one, other = World(tree, text, programs), World(tree, text, tables)
            while True:
                self.assertEqual(self.shown(tree, one), self.shown(tree, other))
                entries = [("give",) + given for given in one.under_way()] + [("answer", end, 0) for end in one.asked()]
                if one.turn() is not None:
                    entries.append(("hand", rng.choice([0, 0, 1]) if text[one.turn()][5] or text[one.turn()][3] not in (1, (1,), (1, 1)) else 0))
                if not entries or one.fault() is not None:
                    break
                entry = rng.choice(entries)
                self.assertEqual(getattr(one, entry[0])(*entry[1:]), getattr(other, entry[0])(*entry[1:]))

    def shown(self, tree, world):
        lines = [[world.line(u, w).sent(side) for side in (0, 1)] for u, w, _ in tree.lines]
        return [world.turn(), world.asked(), world.under_way(), world.is_over(), world.fault(), lines, world.done()]

    def test_made_programs(self):
        for text, lines in [
            ((("tell", 1, (2, 3), 3, 3, True), ("tell", 3, (1,), 2, 0, False)), [(1, 2, ("letters", 4, 2)), (2, 3, ("wires", 7))]),
            ((("ask", 2, (1, 3), 2, (2, 3), True),), [(1, 2, ("letters", 2, 3)), (2, 3, ("letters", 3, 3))]),
            ((("deal", 1, (2, 3), (2, 2), 2, False),), [(1, 2, ("wires", 5)), (1, 3, ("letters", 2, 1))]),
        ]:
            tree = Tree(3, lines)
            programs = made(tree, text, papers(tree, text))
            self.same(judged(tree, text, programs, 1000), None)
            tables = tabled(tree, text, programs, 1000)
            self.same(judged(tree, text, tables, 1000), None)

    def test_a_run_that_fails_is_not_told_if_there_are_too_many(self):
        teller = Table(0, {(0, ("handed", 0)): (0, ((2, 1),), (("done",),)), (0, ("handed", 1)): (0, ((2, 1), (2, 2)), ())})
        self.same(judged(TWO, BIT, [teller, IDLE], 4), [("hand", 0)])
        self.too_many(4, judged, TWO, BIT, [teller, IDLE], 3)
        self.same(judged(tree=TWO, text=BIT, programs=(teller, IDLE), most=4), [("hand", 0)])

    def test_a_failing_first_entry_alone(self):
        loud = Table(0, {(0, ("handed", value)): (0, (), (("done",),)) for value in range(2)})
        self.same(judged(TWO, BIT, [loud, IDLE], 1), [("hand", 0)])
        self.same([table.rows() for table in tabled(TWO, BIT, [loud, IDLE], 1)], [loud.rows(), {}])
        self.same(judged(TWO, BIT, [IDLE, IDLE], 1), [("hand", 0)])
        self.same([table.rows() for table in tabled(TWO, BIT, [IDLE, IDLE], 1)], [{(0, ("handed", 0)): (0, (), ()), (0, ("handed", 1)): (0, (), ())}, {}])

    def test_lists_are_new(self):
        found = judged(TWO, BIT, [IDLE, IDLE], 5)
        found.append(1)
        self.same(judged(TWO, BIT, [IDLE, IDLE], 5), [("hand", 0)])


class Situations(Case):
    """Point 121: what tells two situations apart, where the standings do not."""

    def counts(self, count, tree, text, programs):
        self.assertEqual(search(tree, text, programs, 1000)[0], count)
        judged(tree, text, programs, count)
        self.too_many(count, judged, tree, text, programs, count - 1)

    def test_what_was_sent_and_has_come(self):
        tree = Tree(2, [(1, 2, ("letters", 2, 2))])
        teller = Table(0, {(0, ("handed", 0)): (0, ((2, 1), (2, 2)), ())})
        hearer = Table(0, {(0, ("comes", 1, 1)): (0, ((1, 1),), ()), (0, ("comes", 1, 2)): (0, ((1, 2),), ())})
        # None, or handed: each of the two kinds under way, or come with its answer under way, or that has come, too.
        self.counts(1 + 3 * 3 - 1, tree, (("tell", 1, (2,), 1, 0, False),), [teller, hearer])

    def test_on_wires(self):
        tree = Tree(2, [(1, 2, ("wires", 2))])
        teller = Table(0, {(0, ("handed", 0)): (0, ((2, 1),), ())})
        hearer = Table(0, {(0, ("comes", 1, 1)): (0, ((1, 2),), (("decides", 0),))})
        self.counts(4, tree, (("tell", 1, (2,), 1, 0, False),), [teller, hearer])

    def test_the_order_of_answers(self):
        tree = Tree(3, [(1, 2, ("letters", 1, 1)), (1, 3, ("letters", 1, 1))])
        asker = Table(0, {(0, ("handed", 0)): (0, ((2, 1), (3, 1)), ())})
        hearer = Table(0, {(0, ("comes", 1, 1)): (0, (), (("decides", 0),)), (0, ("handed", 0)): (0, ((1, 1),), ())})
        # None; then each hearer apart: not decided, decided, answered, the answer has come; not both of the last.
        self.counts(1 + 4 * 4 - 1, tree, (("ask", 1, (2, 3), 1, (1, 1), False),), [asker, hearer, hearer])

    def test_what_was_said(self):
        tree = Tree(2, [(1, 2, ("letters", 2, 2))])
        teller = Table(0, {(0, ("handed", 0)): (0, ((2, 1), (2, 2)), ())})
        hearer = Table(0, {
            (0, ("comes", 1, 1)): (1, (), ()), (0, ("comes", 1, 2)): (2, (), (("decides", 0),)),
            (1, ("comes", 1, 2)): (3, ((1, 1),), ()), (2, ("comes", 1, 1)): (3, ((1, 1),), ()),
        })
        # Both kinds have come, with one standing: decided or not. What has come back then fails only where it is not.
        self.counts(1 + 1 + 2 + 2 + 1, tree, (("tell", 1, (2,), 1, 0, False),), [teller, hearer])


class TooManyOfThem(Case):
    def test_numbers_above_100(self):
        pair = [IDLE, IDLE]
        for text, count in [
            ((("tell", 1, (2,), 100, 0, True),), None), ((("tell", 1, (2,), 101, 0, False),), 101), ((("deal", 1, (2,), (101,), 0, True),), 101),
            ((("ask", 1, (2,), 100, (100,), True),), None), ((("ask", 1, (2,), 1, (101,), True),), 101), ((("ask", 1, (2,), 103, (102,), True),), 103),
            ((("tell", 1, (2,), 100, 1, False), ("ask", 1, (2,), 2, (104,), False), ("tell", 1, (2,), 10 ** 12, 1, False)), 104),
        ]:
            for call in [judged, tabled]:
                if count is None:
                    call(TWO, text, pair, 1000)
                else:
                    self.too_many(count, call, TWO, text, pair, 1000)
                    self.too_many(count, call, TWO, text, pair, 1)

    def test_a_deal_counts_by_its_product(self):
        tree = Tree(3, [(1, 2, ("letters", 1, 1)), (1, 3, ("letters", 1, 1))])
        idle = [IDLE] * 3
        judged(tree, (("deal", 1, (2, 3), (10, 10), 0, True),), idle, 10)
        self.too_many(102, judged, tree, (("deal", 1, (2, 3), (51, 2), 0, False),), idle, 10)
        self.too_many(102, judged, tree, (("ask", 1, (2, 3), 2, (100, 102), False), ("ask", 1, (2, 3), 2, (101, 2), False)), idle, 10)

    def test_more_than_400_rows(self):
        for answers, hearer in [(99, 2), (99, 1)]:
            tree, text, programs = self.levels(answers, hearer)
            tables = tabled(tree, text, programs, 1000)
            self.assertEqual([len(table.rows()) for table in tables], [4, 400] if hearer == 2 else [400, 4])
            self.same(judged(tree, text, tables, 1000), judged(tree, text, programs, 1000))
        for answers, hearer in [(100, 2), (100, 1)]:
            tree, text, programs = self.levels(answers, hearer)
            self.assertEqual(len(judged(tree, text, programs, 1000)), 9)
            self.too_many(404, tabled, tree, text, programs, 1000)
            count, _, rows = search(tree, text, programs, 1000)
            self.assertEqual(len(rows[hearer]), 404)
            self.too_many(404, tabled, tree, text, programs, count)
            self.too_many(count, tabled, tree, text, programs, count - 1)

    def levels(self, answers, hearer):
        """A hearer who may be handed one of its answers in each of four standings, and is not answered any further."""
        asker = 3 - hearer
        text = (("ask", asker, (hearer,), 1, (answers,), False),)
        asking = {(0, ("handed", 0)): (1, ((hearer, 1),), ())}
        hearing = {(0, ("comes", asker, 1)): (1, ((asker, 1),), (("decides", 0),))}
        for level in range(1, 4):
            asking[(level, ("comes", hearer, level))] = (level + 1, ((hearer, level + 1),), ())
            hearing[(level, ("comes", asker, level + 1))] = (level + 1, ((asker, level + 1),) if level < 3 else (), ())
        programs = [Table(0, asking), Table(0, hearing)]
        return Tree(2, [(1, 2, ("letters", 4, 4))]), text, programs if asker == 1 else programs[::-1]


class Errors(Case):
    def test_order(self):
        pair = [IDLE, IDLE]
        above = (("tell", 1, (2,), 101, 0, False),)
        for call in [judged, tabled]:
            for wrong in [(), None, BIT + BIT, list(BIT)]:
                self.refused(InvalidText, wrong, call, TWO, wrong, None, 0)
            for wrong in NO_LISTS + [[], [IDLE], [IDLE] * 3, [IDLE, None], [IDLE, "Table"], [IDLE, {}]]:
                self.refused(InvalidPrograms, wrong, call, TWO, above, wrong, 0)
            for wrong in [0, 1001, -1, 10 ** 20] + NO_INTEGERS:
                self.refused(InvalidMost, wrong, call, TWO, above, pair, wrong)
            self.too_many(101, call, TWO, above, pair, 1)

    def test_all_classes_of_programs(self):
        programs = made(TWO, BIT, papers(TWO, BIT))
        self.same(judged(TWO, BIT, [Folded(programs[0], []), right_tables(TWO, BIT)[1]], 5), None)
        self.same(judged(TWO, BIT, [Folded(programs[0], [(2, 1)]), programs[1]], 5), [("hand", 1), ("give", 1, 2, 1)])


if __name__ == "__main__":
    unittest.main()
