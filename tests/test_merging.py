"""Points 201 to 203: least tables, what parts two tables, and programs that are exchanged for their least tables."""

import random
import time
import unittest
from itertools import product

from tests.helper import NO_INTEGERS, NO_LISTS, Case
from tests.lots import just_enough, some_pairs, some_text
from tests.programs_of import near_misses, some_table
from upforgood.ends import made
from upforgood.errors import InvalidPrograms
from upforgood.keeping import papers
from upforgood.merging import least_table, least_tables, parting
from upforgood.programs import Folded, Table
from upforgood.trees import Tree
from upforgood.worlds import World, fault_of

EVENTS = [("comes", 1, 1), ("comes", 1, 2), ("comes", 2, 1), ("handed", 0), ("handed", 1)]
SAYS = [(), (), (("done",),), (("decides", 0),), (("decides", "end"),), (("done",), ("answers", (0, 1)))]
SENDS = [(), (), (), ((2, 1),), ((2, 1), (2, 2))]
NAMES = [0, "a", (), ("a", 1), -3, ((),), "b", 7]


def any_table(rng, standings, share, quiet):
    """A table over some standings; where it is quiet, little is sent and said."""
    rows = {}
    for standing, event in product(standings, EVENTS):
        if rng.random() < share:
            says = rng.choice(SAYS) if rng.random() > quiet else ()
            sends = rng.choice(SENDS) if rng.random() > quiet else ()
            rows[standing, event] = (rng.choice(standings), sends, says)
    return Table(rng.choice(standings), rows)


def events_of(*tables):
    return sorted({event for table in tables for _, event in table.rows()})


def parted_pairs(table):
    """All pairs of standings that some list of events tells apart: marked one by one, until no more are."""
    standings = list({table.first()} | {key[0] for key in table.rows()} | {deed[0] for deed in table.rows().values()})
    events = events_of(table)
    parted = {(one, other) for one, other in product(standings, repeat=2) if any(table.step(one, e)[1:] != table.step(other, e)[1:] for e in events)}
    while True:
        more = {
            (one, other) for one, other in product(standings, repeat=2)
            if (one, other) not in parted and any((table.step(one, e)[0], table.step(other, e)[0]) in parted for e in events)
        }
        if not more:
            return parted
        parted |= more


def least_by_marks(table):
    """The least table, word by word by point 201."""
    parted, events = parted_pairs(table), events_of(table)
    met, rows, at = [table.first()], {}, 0
    while at < len(met):
        for event in events:
            behind, sends, says = table.step(met[at], event)
            same = [number for number, other in enumerate(met) if (behind, other) not in parted]
            if not same:
                same = [len(met)]
                met.append(behind)
            if sends or says or same[0] != at:
                rows[at, event] = (same[0], sends, says)
        at += 1
    return rows


def shortest_parting(one, other):
    """By all lists of events, the shorter ones first, and of one length in their order."""
    events = events_of(one, other)
    layer, met = [([], one.first(), other.first())], {(one.first(), other.first())}
    while layer:
        behind = []
        for told, left, right in layer:
            for event in events:
                first, second = one.step(left, event), other.step(right, event)
                if first[1:] != second[1:]:
                    return told + [event]
                if (first[0], second[0]) not in met:
                    met.add((first[0], second[0]))
                    behind.append((told + [event], first[0], second[0]))
        layer = behind
    return None


def plays(table, events):
    standing, told = table.first(), []
    for event in events:
        standing, sends, says = table.step(standing, event)
        told.append((sends, says))
    return told


def chain(length, last, event=("handed", 0)):
    """Rows of which each one leads to the next standing, and the last one says something."""
    return Table(0, {(at, event): (at + 1, (), last if at == length - 1 else ()) for at in range(length)})


class Least(Case):
    def is_least(self, table):
        found = least_table(table=table)
        self.same(type(found), Table)
        self.same(found.first(), 0)
        self.same(sorted(found.rows().items()), sorted(least_by_marks(table).items()))
        self.assertTrue(least_table(found) == found)
        self.same(parting(table, found), None)
        return found

    def test_against_an_own_search(self):
        rng = random.Random(201)
        fewer = 0
        for _ in range(250):
            table = any_table(rng, NAMES[:rng.randint(1, 8)], rng.choice([0.2, 0.5, 0.9]), rng.choice([0.2, 0.7, 0.95, 1]))
            before = table.rows()
            found = self.is_least(table)
            self.assertEqual(table.rows(), before)
            fewer += int(len(found.rows()) < len(before))
        self.assertGreater(fewer, 50)

    def test_no_rows_and_rows_for_nothing(self):
        for table in [
            Table("a", {}), Table((), {((), ("handed", 0)): ((), (), ())}), Table("a", {("b", ("handed", 0)): ("c", ((1, 1),), ())}),
            Table("a", {("a", ("handed", 0)): ("b", (), ()), ("b", ("comes", 1, 1)): ("a", (), ())}),
        ]:
            self.same([self.is_least(table).first(), least_table(table).rows()], [0, {}])

    def test_numbered_as_they_are_met(self):
        rows = {
            ("x", ("handed", 1)): ("p", (), (("done",),)), ("x", ("comes", 9, 9)): ("q", (), ()), ("x", ("handed", 0)): ("r", (), ()),
            ("q", ("handed", 5)): ("x", ((1, 1),), ()), ("r", ("handed", 5)): ("x", ((1, 2),), ()), ("p", ("handed", 5)): ("x", ((1, 3),), ()),
        }
        self.same(sorted(self.is_least(Table("x", rows)).rows()), [
            (0, ("comes", 9, 9)), (0, ("handed", 0)), (0, ("handed", 1)), (1, ("handed", 5)), (2, ("handed", 5)), (3, ("handed", 5)),
        ])
        self.same(least_table(Table("x", rows)).rows()[(0, ("handed", 1))], (3, (), (("done",),)))

    def test_a_row_only_where_something_comes_of_it(self):
        """A standing that does the same as the one ahead of it is the same; sends alone make a row, too."""
        rows = {("a", ("handed", 0)): ("b", (), ()), ("b", ("handed", 0)): ("a", (), ()), ("a", ("handed", 1)): ("b", ((1, 1),), ()), ("b", ("handed", 1)): ("a", ((1, 1),), ())}
        self.same(self.is_least(Table("a", rows)).rows(), {(0, ("handed", 1)): (0, ((1, 1),), ())})

    def test_standings_that_no_event_reaches(self):
        rng = random.Random(202)
        for _ in range(40):
            table = any_table(rng, NAMES[:4], 0.6, 0.5)
            rows = table.rows()
            rows.update({(("far", at), event): (rng.choice(NAMES[:4]), ((5, 5),), ()) for at in range(3) for event in EVENTS + [("handed", 99)]})
            self.assertTrue(least_table(Table(table.first(), rows)) == self.is_least(table))

    def test_that_differ_late(self):
        for length in [1, 2, 17, 60]:
            self.same(len(least_table(chain(length, (("done",),))).rows()), length)
            self.same(least_table(chain(length, ())).rows(), {})
        two = chain(30, (("done",),)).rows()
        two.update({(("b", at), ("handed", 0)): (("b", at + 1), (), (("done",),) if at == 28 else ()) for at in range(29)})
        two[0, ("handed", 1)] = (("b", 0), (), ())
        self.is_least(Table(0, two))
        self.same(least_table(Table(0, two)).rows()[(0, ("handed", 1))], (1, (), ()))

    def test_tables_of_400_rows(self):
        begun = time.perf_counter()
        self.same(len(least_table(chain(400, (("done",),))).rows()), 400)
        ring = {(at, ("handed", 0)): ((at + 1) % 400, (), (("done",),) if at % 100 == 99 else ()) for at in range(400)}
        self.same(len(least_table(Table(0, ring)).rows()), 100)
        wide = {("", ("comes", 1, at)): (at % 7, ((1, at % 3),), ()) for at in range(400)}
        self.same(len(least_table(Table("", wide)).rows()), 400)
        self.same(parting(chain(400, (("done",),)), chain(400, ())), [("handed", 0)] * 400)
        self.same(parting(chain(400, (("done",),)), chain(399, (("done",),))), [("handed", 0)] * 399)
        self.same(parting(Table(0, ring), least_table(Table(0, ring))), None)
        self.assertLess(time.perf_counter() - begun, 5)


class Parting(Case):
    def test_against_a_search(self):
        rng = random.Random(203)
        lengths = {}
        for _ in range(500):
            quiet, share = rng.choice([0.3, 0.8, 0.95]), rng.choice([0.3, 0.6, 0.9])
            one = any_table(rng, NAMES[:rng.randint(1, 5)], share, quiet)
            other = any_table(rng, NAMES[:rng.randint(1, 5)], share, quiet)
            if rng.random() < 0.5:
                rows = one.rows()
                for key in rng.sample(sorted(rows, key=repr), min(len(rows), 2)):
                    rows[key] = (rows[key][0], rng.choice(SENDS), rng.choice(SAYS))
                other = Table(one.first(), rows)
            found = parting(one=one, other=other)
            self.same(found, shortest_parting(one, other))
            self.same(parting(other, one), found)
            self.assertEqual(found is None, least_table(one) == least_table(other))
            if found is not None:
                self.assertEqual(plays(one, found)[:-1], plays(other, found)[:-1])
                self.assertNotEqual(plays(one, found)[-1], plays(other, found)[-1])
            lengths[0 if found is None else len(found)] = True
        self.assertGreater(len(lengths), 3)

    def test_events_of_one_table_alone(self):
        empty = Table("a", {})
        for table, expected in [
            (Table("b", {("b", ("handed", 3)): ("b", ((1, 1),), ())}), [("handed", 3)]),
            (Table("b", {("b", ("handed", 3)): ("c", (), ()), ("c", ("comes", 4, 4)): ("c", (), (("done",),))}), [("handed", 3), ("comes", 4, 4)]),
        ]:
            self.same([parting(empty, table), parting(table, empty), parting(table, table)], [expected, expected, None])

    def test_the_least_of_the_shortest(self):
        rows = {("a", event): ("b", (), ()) for event in EVENTS}
        other = {("a", event): ("c", (), ()) for event in EVENTS}
        for event in EVENTS[1:]:
            rows["b", event] = ("b", ((1, 1),), ())
            other["c", event] = ("c", ((1, 2),), ())
        self.same(parting(Table("a", rows), Table("a", other)), [EVENTS[0], EVENTS[1]])

    def test_sends_and_says_are_told_apart(self):
        tables = [Table(0, {(0, ("handed", 0)): (0, sends, says)}) for sends in [(), ((1, 2), (1, 1)), ((1, 1), (1, 2))] for says in SAYS[1:]]
        for one, other in product(tables, repeat=2):
            self.same(parting(one, other), None if one == other else [("handed", 0)])


class Exchanged(Case):
    def test_runs_tell_the_same(self):
        rng = random.Random(204)
        faults = {}
        for _ in range(60):
            ends = rng.randint(2, 3)
            text = some_text(rng, ends, 2, 2)
            tree = just_enough(rng, ends, some_pairs(rng, ends), text)
            if tree is None:
                continue
            programs = near_misses(rng, tree, text)
            if programs is None or not all(isinstance(program, Table) for program in programs):
                programs = [some_table(rng, tree, end) for end in range(1, ends + 1)]
            least = least_tables(programs=programs)
            for _ in range(6):
                run = self.some_run(rng, World(tree, text, programs), text)
                fault = fault_of(tree, text, programs, run)
                faults[fault] = True
                self.same(fault_of(tree, text, least, run), fault)
        self.assertEqual(len(faults), 4)

    def some_run(self, rng, world, text):
        for _ in range(30):
            if world.fault() is not None:
                break
            entries = [(world.give,) + given for given in world.under_way()] * 3
            for end in world.asked():
                entries.append((world.answer, end, 0))
            if world.turn() is not None:
                entries.append((world.hand, 0))
            if not entries:
                break
            entry = rng.choice(entries)
            entry[0](*entry[1:])
        return world.run()

    def test_as_many_as_there_are(self):
        rng = random.Random(205)
        for many in range(6):
            tables = [any_table(rng, NAMES[:3], 0.6, 0.5) for _ in range(many)]
            for found in [least_tables(tables), least_tables(tuple(tables))]:
                self.same([type(found), len(found)], [list, many])
                self.assertTrue(all(least == least_table(table) for least, table in zip(found, tables)))

    def test_wrong(self):
        table = Table(0, {})
        tree, text = Tree(2, [(1, 2, ("wires", 1))]), (("tell", 1, (2,), 1, 0, False),)
        others = [Folded(table, []), made(tree, text, papers(tree, text))[0], None, 0, "", {}, []]
        for wrong in NO_LISTS + NO_INTEGERS[3:6] + [[table] * 6, (table,) * 7, table] + [[table, other] for other in others]:
            if wrong not in ([], ()):
                self.refused(InvalidPrograms, wrong, least_tables, wrong)

    def test_new_each_time(self):
        table = Table("a", {("a", ("handed", 0)): ("b", ((1, 1),), ())})
        least_table(table).rows().clear()
        least_tables([table]).clear()
        one = parting(table, Table("a", {}))
        one.clear()
        self.same([len(least_table(table).rows()), len(least_tables([table])), parting(table, Table("a", {}))], [1, 1, [("handed", 0)]])


if __name__ == "__main__":
    unittest.main()
