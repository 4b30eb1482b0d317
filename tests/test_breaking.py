"""Points 131 and 132: runs in which programs fail that are to keep what cannot be kept."""

import random
import time
import unittest
from itertools import product

from tests.helper import NO_LISTS, Case
from tests.lots import all_pairs, fewer, just_enough, some_pairs, some_paper, some_text
from tests.programs_of import changed, right_tables, some_table
from upforgood.breaking import broken
from upforgood.ends import made
from upforgood.errors import InvalidPrograms, InvalidText, Kept
from upforgood.keeping import barred, can_keep, papers
from upforgood.programs import Folded, Table
from upforgood.rows import can_tell
from upforgood.trees import Tree
from upforgood.wires import most_raised
from upforgood.worlds import World, fault_of

IDLE = Table(0, {})
TWO = Tree(2, [(1, 2, ("letters", 2, 1))])
TELL = (("tell", 1, (2,), 3, 0, False),)


def kinds_to(tree, end, near):
    spec = tree.spec(end, near)
    return spec[1] if spec[0] == "wires" or end < near else spec[2]


def folded(tree, programs):
    """The programs with all kinds folded into those that the lines of a tree have."""
    found = []
    for end, program in enumerate(programs, 1):
        found.append(Folded(program, [(near, kinds_to(tree, end, near)) for near in tree.neighbours(end)]))
    return found


def extended(rng, table):
    """A table that takes some more values for one that it knows."""
    rows = table.rows()
    handed = [key for key in rows if key[1][0] == "handed"]
    for standing in sorted({key[0] for key in handed}, key=repr):
        known = [key for key in handed if key[0] == standing]
        like = rng.choice(known)
        for value in range(max(key[1][1] for key in known) + 4):
            rows.setdefault((standing, ("handed", value)), rows[like])
    return Table(table.first(), rows) if len(rows) <= 400 else table


def sends_all(tree, end, says):
    """A program that sends all at once, and says this whenever anything happens."""
    sends = tuple([(near, kind) for near in tree.neighbours(end) for kind in range(1, kinds_to(tree, end, near) + 1)])
    rows = {(0, ("handed", value)): (0, sends, says) for value in range(9)}
    for near, kind in product(tree.neighbours(end), range(1, 11)):
        rows[(0, ("comes", near, kind))] = (0, sends, says)
    return Table(0, rows)


class Broken(Case):
    def breaks(self, tree, text, programs):
        run = broken(tree, text, programs)
        self.assertIs(type(run), list)
        self.assertLessEqual(len(run), 120)
        world = World(tree, text, programs)
        for entry in run:
            self.assertIsNone(world.fault())
            getattr(world, entry[0])(*entry[1:])
        self.assertIsNotNone(world.fault(), (tree.lines, text, run))
        self.same(fault_of(tree, text, programs, run), world.fault())
        self.same(broken(tree, text, tuple(programs)), run)
        return world.fault()

    def breakable(self, tree, text):
        bars = barred(tree, text)
        return bars != [] and max(tree.spec(*bars[0])[1:]) <= 6

    def test_one_kind_or_wire_too_few(self):
        rng = random.Random(131)
        told = {"early": 0, "wrong": 0, "never": 0}
        for _ in range(250):
            ends = rng.randint(2, 5)
            text = some_text(rng, ends, rng.choice([1, 2, 4, 8]), rng.choice([2, 3, 6, 20]))
            tree = just_enough(rng, ends, some_pairs(rng, ends), text)
            if tree is None:
                continue
            at = rng.randrange(len(tree.lines))
            less = self.one_too_few(rng, tree, at)
            if less is not None and self.breakable(less, text):
                for programs in self.for_more(rng, tree, less, text):
                    told[self.breaks(less, text, programs)] += 1
        self.assertTrue(min(told.values()) > 5, told)

    def one_too_few(self, rng, tree, at):
        """One line is too little by one kind or wire, and all others are as great as they may be."""
        specs = fewer(tree.lines[at][2])
        if not specs:
            return None
        lines = []
        for index, (u, w, spec) in enumerate(tree.lines):
            most = ("wires", 10) if spec[0] == "wires" else ("letters", 8, 8)
            lines.append((u, w, rng.choice(specs) if index == at else most))
        return Tree(tree.ends, lines)

    def for_more(self, rng, tree, less, text):
        """Programs that would keep the text over greater lines, and others."""
        programs = made(tree, text, papers(tree, text))
        roomy = Tree(tree.ends, [(u, w, ("letters", 8, 8) if spec[0] == "letters" else ("wires", 10)) for u, w, spec in tree.lines])
        found = [programs, folded(less, programs), made(roomy, text, papers(roomy, text))]
        if len(text) < 3:
            found.append(folded(less, made(roomy, text, some_paper(rng, roomy, text))))
        found.append([some_table(rng, less, end) for end in range(1, tree.ends + 1)])
        return found

    def test_a_number_too_great(self):
        rng = random.Random(132)
        told = {"early": 0, "wrong": 0, "never": 0}
        for _ in range(400):
            ends = rng.choice([2, 2, 3, 4])
            text = some_text(rng, ends, 3, 4)
            tree = just_enough(rng, ends, some_pairs(rng, ends), text)
            more = self.one_more(rng, text)
            if tree is None or not self.breakable(tree, more):
                continue
            lots = [made(tree, text, papers(tree, text))]
            tables = right_tables(tree, text)
            if tables is not None:
                lots.append([extended(rng, table) for table in tables])
                lots.append([changed(rng, tree, table) for table in lots[1]])
            for programs in lots:
                told[self.breaks(tree, more, programs)] += 1
        self.assertTrue(min(told.values()) > 5, told)

    def one_more(self, rng, text):
        """The text with one of its numbers greater by one."""
        at = rng.randrange(len(text))
        step = list(text[at])
        places = [3] if step[0] == "tell" else [3, 4] if step[0] == "ask" else [3]
        place = rng.choice(places)
        if isinstance(step[place], tuple):
            which = rng.randrange(len(step[place]))
            step[place] = step[place][:which] + (step[place][which] + 1,) + step[place][which + 1:]
        else:
            step[place] += 1
        return text[:at] + (tuple(step),) + text[at + 1:]

    def test_programs_of_all_sorts(self):
        rng = random.Random(133)
        for ends in [2, 3, 4]:
            for pairs in all_pairs(ends):
                text = some_text(rng, ends, 3, 9)
                tree = Tree(ends, [(u, w, rng.choice([("letters", 2, 1), ("wires", 2), ("letters", 1, 3)])) for u, w in pairs])
                if not self.breakable(tree, text):
                    continue
                for says in [(), (("done",),), (("decides", 0),), (("decides", "end"),), (("answers", (0,)),)]:
                    self.breaks(tree, text, [sends_all(tree, end, says) for end in range(1, ends + 1)])
                    self.breaks(tree, text, [Table(0, {(0, ("handed", 0)): (0, (), says)})] * ends)
                self.breaks(tree, text, [IDLE] * ends)
                self.breaks(tree, text, [some_table(rng, tree, end) for end in range(1, ends + 1)])

    def test_all_tellers_of_a_small_line(self):
        """Two kinds and one answer tell two values, not three: each way to send, with hearers that decide by what they see."""
        self.assertFalse(can_tell([3], 2, 1))
        ways = [(), ((2, 1),), ((2, 2),), ((2, 1), (2, 2))]
        hearers = [self.hearer(decisions, replies) for decisions in [(0, 1, 2), (0, 1, None), (None, 1, 2), (1, 0, 2)] for replies in [(), ((1, 1),)]]
        for first in product(ways, repeat=3):
            for again in [((), (), ()), (((2, 1),),) * 3, (((2, 2),), ((2, 1),), ((2, 2),))]:
                rows = {(0, ("handed", value)): (value + 1, first[value], ()) for value in range(3)}
                rows.update({(value + 1, ("comes", 2, 1)): (4, again[value], ()) for value in range(3)})
                for hearer in hearers:
                    self.breaks(TWO, TELL, [Table(0, rows), hearer])

    def hearer(self, decisions, replies):
        """Decides one thing by the first kind, one by the second one, and one when both have come."""
        rows = {}
        for kind in (1, 2):
            said = () if decisions[kind - 1] is None else (("decides", decisions[kind - 1]),)
            rows[(0, ("comes", 1, kind))] = (kind if decisions[kind - 1] is None else 3, replies, said)
            rows[(kind, ("comes", 1, 3 - kind))] = (3, replies, (("decides", decisions[2] or 0),))
        return Table(0, rows)

    def test_great_numbers(self):
        begun = time.time()
        roomy = Tree(2, [(1, 2, ("letters", 8, 8))])
        programs = made(roomy, (("tell", 1, (2,), 40320, 0, False),), [((1,) * 8,)])
        for spec in [("letters", 6, 6), ("letters", 6, 5), ("wires", 6), ("letters", 0, 6)]:
            tree = Tree(2, [(1, 2, spec)])
            for text in [
                (("tell", 1, (2,), 721, 0, False),), (("tell", 1, (2,), 10 ** 12, 0, True),), (("ask", 1, (2,), 10 ** 12, (10 ** 12,), True),) * 8,
                (("ask", 1, (2,), 1, (10 ** 12,), True),) * 8, (("tell", 2, (1,), 1, 2, False),) * 8 + (),
            ]:
                if self.breakable(tree, text):
                    self.breaks(tree, text, programs)
                    self.breaks(tree, text, folded(tree, programs))
        five = Tree(5, [(u, u + 1, ("letters", 6, 6)) for u in range(1, 5)])
        text = (("deal", 1, (2, 3, 4, 5), (10 ** 12,) * 4, 0, True),)
        self.breaks(five, text, [IDLE] * 5)
        self.assertLess(time.time() - begun, 30)

    def test_the_end_is_a_value_too(self):
        tree = Tree(2, [(1, 2, ("letters", 3, 0))])
        text = (("tell", 1, (2,), 3, 0, True),)
        rows = {(0, ("handed", value)): (0, ((2, value + 1),), ()) for value in range(3)}
        for sends in [(), ((2, 1),), ((2, 1), (2, 2)), ((2, 1), (2, 2), (2, 3))]:
            rows[(0, ("handed", 3))] = (0, sends, ())
            hearer = Table(0, {(0, ("comes", 1, kind)): (1, (), (("decides", kind - 1),)) for kind in range(1, 4)})
            self.breaks(tree, text, [Table(0, rows), hearer])
        self.same(can_keep(tree, (("tell", 1, (2,), 3, 0, False),)), True)

    def test_an_end_that_takes_all_and_is_told_rightly(self):
        """Behind the end nothing has to follow, so its run is not the one that leaves too few kinds."""
        text = (("tell", 1, (2,), 2, 1, True), ("tell", 1, (2,), 1, 0, False))
        rows = {("", ("handed", 0)): ("", ((2, 1),), ()), ("", ("handed", 1)): ("", ((2, 2),), ()), ("", ("handed", 2)): ("", ((2, 1), (2, 2)), ())}
        waits = {("", ("comes", 1, kind)): ("one", (), ()) for kind in (1, 2)}
        waits.update({("one", ("comes", 1, kind)): ("", (), (("decides", "end"),)) for kind in (1, 2)})
        self.same(fault_of(TWO, text, [Table("", rows), Table("", waits)], [("hand", 2), ("give", 1, 2, 1), ("give", 1, 2, 2)]), None)
        self.same(self.breaks(TWO, text, [Table("", rows), Table("", waits)]), "never")

    def test_answers_that_cannot_be_told(self):
        roomy = Tree(3, [(1, 2, ("letters", 4, 4)), (2, 3, ("letters", 4, 4))])
        tree = Tree(3, [(1, 2, ("letters", 4, 2)), (2, 3, ("letters", 4, 4))])
        text = (("ask", 1, (2, 3), 2, (2, 2), False),)
        self.same([barred(roomy, text), barred(tree, text)], [[], [(1, 2)]])
        programs = made(roomy, text, papers(roomy, text))
        for lot in [programs, folded(tree, programs)]:
            self.breaks(tree, text, lot)

    def test_a_hearer_beside_who_decides_late(self):
        """The asker asks the end 3 only when the end 2 has answered, beyond the line that bars."""
        tree = Tree(3, [(1, 2, ("letters", 1, 2)), (1, 3, ("letters", 2, 2))])
        text = (("ask", 1, (2, 3), 1, (3, 1), False),)
        self.same(barred(tree, text), [(1, 2)])
        asker = {("", ("handed", 0)): ("", ((2, 1),), ())}
        for kind in (1, 2):
            asker[("", ("comes", 2, kind))] = (kind, ((3, 1),), ())
            for other in (1, 2):
                asker[(kind, ("comes", 3, other))] = ("", (), (("answers", (kind - 1, other - 1)),))
        beyond = {("", ("comes", 1, 1)): ("", (), (("decides", 0),))}
        beyond.update({("", ("handed", number)): ("", sends, ()) for number, sends in enumerate([((1, 1),), ((1, 2),), ((1, 1), (1, 2))])})
        beside = {("", ("comes", 1, 1)): ("", (), (("decides", 0),)), ("", ("handed", 0)): ("", ((1, 1),), ())}
        self.same(self.breaks(tree, text, [Table("", asker), Table("", beyond), Table("", beside)]), "wrong")

    def test_more_than_six(self):
        idle = [IDLE, IDLE]
        great = (("tell", 1, (2,), 10 ** 12, 0, False),)
        for spec, count in [(("letters", 7, 0), 7), (("letters", 0, 7), 7), (("letters", 7, 8), 8), (("wires", 7), 7), (("wires", 10), 10)]:
            self.too_many(count, broken, Tree(2, [(1, 2, spec)]), great, idle)
        for spec in [("letters", 6, 6), ("letters", 0, 0), ("wires", 6), ("wires", 0)]:
            self.breaks(Tree(2, [(1, 2, spec)]), great, idle)
        three = [IDLE] * 3
        text = (("tell", 1, (2, 3), 10 ** 12, 0, False),)
        self.too_many(8, broken, Tree(3, [(1, 2, ("letters", 8, 2)), (2, 3, ("wires", 1))]), text, three)
        self.breaks(Tree(3, [(1, 2, ("letters", 1, 2)), (2, 3, ("wires", 10))]), text, three)
        self.assertGreater(most_raised(7), most_raised(6))

    def test_order_of_errors(self):
        tree = Tree(2, [(1, 2, ("letters", 8, 8))])
        text = (("tell", 1, (2,), 10 ** 12, 0, False),)
        kept = (("tell", 1, (2,), 2, 0, False),)
        for wrong in [(), None, list(TELL), TELL + TELL]:
            self.refused(InvalidText, wrong, broken, tree, wrong, None)
        for wrong in NO_LISTS + [[], [IDLE], [IDLE] * 3, [IDLE, None], [IDLE, TWO]]:
            self.refused(InvalidPrograms, wrong, broken, tree, kept, wrong)
            self.refused(InvalidPrograms, wrong, broken, tree, text, wrong)
        self.refused_with(Kept, {}, broken, tree, kept, [IDLE, IDLE])
        self.too_many(8, broken, tree, text, [IDLE, IDLE])
        self.same(broken(tree=TWO, text=TELL, programs=(IDLE, IDLE)), [("hand", 0)])


if __name__ == "__main__":
    unittest.main()
