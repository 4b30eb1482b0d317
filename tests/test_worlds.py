"""Points 6 and 111 to 114: runs, their entries, their faults, and what is told of them."""

import random
import unittest

from tests.helper import NO_INTEGERS, NO_LISTS, Case
from tests.lots import just_enough, some_pairs, some_text
from tests.programs_of import near_misses, some_table
from tests.reference import Run
from upforgood.ends import made
from upforgood.errors import (
    BadEntry, Failed, InvalidEnd, InvalidNumber, InvalidPrograms, InvalidText, InvalidValue, NoLine, NoTurn, NotAsked, NotSent, TalkError,
)
from upforgood.keeping import papers
from upforgood.lines import Line
from upforgood.programs import Folded, Table
from upforgood.texts import values_of
from upforgood.trees import Tree
from upforgood.worlds import World, fault_of

TWO = Tree(2, [(1, 2, ("letters", 3, 2))])
WIRED = Tree(2, [(1, 2, ("wires", 3))])
THREE = Tree(3, [(1, 2, ("letters", 3, 2)), (2, 3, ("wires", 4))])
BIT = (("tell", 1, (2,), 2, 0, False),)
BACK = (("tell", 1, (2,), 2, 1, True), ("tell", 1, (2,), 2, 2, False))
ASKS = (("ask", 1, (2, 3), 2, (2, 3), True),)
IDLE = Table(0, {})
DECIDES = ("decides", 0)
DONE = ("done",)


def says(said, sends=()):
    """A program that says all this, and sends, whenever something is handed to it or comes to it."""
    rows = {(0, ("handed", value)): (0, sends, said) for value in range(4)}
    for near in range(1, 4):
        rows.update({(0, ("comes", near, kind)): (0, sends, said) for kind in range(1, 5)})
    return Table(0, rows)


def by_events(deeds):
    """A program that takes the events of a list one by one: each is (event, sends, says)."""
    return Table(0, {(at, event): (at + 1, sends, said) for at, (event, sends, said) in enumerate(deeds)})


class AgainstReference(Case):
    def test_some_lots(self):
        faults = {None: 0, "early": 0, "wrong": 0, "never": 0}
        rng = random.Random(111)
        for _ in range(400):
            ends = rng.choice([2, 2, 3, 4])
            text = some_text(rng, ends, 3, 3)
            tree = just_enough(rng, ends, some_pairs(rng, ends), text)
            if tree is None:
                continue
            programs = near_misses(rng, tree, text) if rng.random() < 0.6 else None
            if programs is None:
                programs = [some_table(rng, tree, end) for end in range(1, ends + 1)]
            faults[self.walk(rng, tree, text, programs)] += 1
        self.assertTrue(min(faults.values()) > 4, faults)

    def walk(self, rng, tree, text, programs):
        world, run = World(tree, text, programs), Run(tree, text, programs)
        entries = []
        for _ in range(80):
            self.agree(tree, text, world, run, entries)
            fresh = run.entries()
            if not fresh or run.fault:
                break
            old = [("give", u, w, kind) for u, w in run.sent for kind in run.sent[u, w]]
            entry = rng.choice(fresh) if not old or rng.random() < 0.8 else rng.choice(sorted(old))
            entries.append(entry)
            self.same(getattr(world, entry[0])(*entry[1:]), run.enter(entry))
        self.agree(tree, text, world, run, entries)
        self.same(fault_of(tree, text, programs, entries), world.fault())
        self.same(fault_of(tree, text, tuple(programs), tuple(entries)), world.fault())
        return world.fault()

    def agree(self, tree, text, world, run, entries):
        self.same([world.turn(), world.asked(), world.under_way()], [run.turn(), run.asked(), run.under_way()])
        self.same([world.is_over(), world.fault(), world.run()], [run.over(), run.fault, entries])
        self.same(world.done(), len(run.finished))
        for end in range(1, tree.ends + 1):
            self.same(world.decided(end), run.decided[end])
        for u, w, spec in tree.lines:
            for line in [world.line(u, w), world.line(w, u)]:
                self.same([line.spec, line.sent(0), line.sent(1)], [spec, sorted(run.sent[u, w]), sorted(run.sent[w, u])])
                self.same([line.come_to(1), line.come_to(0)], [sorted(run.came[u, w]), sorted(run.came[w, u])])


class Faults(Case):
    def fails(self, fault, tree, text, programs, entries):
        self.same(fault_of(tree, text, programs, entries), fault)
        if fault is not None:
            self.same(fault_of(tree, text, programs, entries[:-1]), None)
            world = World(tree, text, programs)
            for entry in entries:
                getattr(world, entry[0])(*entry[1:])
            self.same([world.fault(), world.turn(), world.asked(), world.is_over()], [fault, None, [], False])
            self.same(world.run(), entries)
            self.failed_refuses(world, fault)
            self.failed_refuses(world.copy(), fault)

    def failed_refuses(self, world, fault):
        """A failed world refuses all entries, ahead of all that is wrong in them, and changes nothing."""
        before = world.run()
        for call, arguments in [(world.hand, (0,)), (world.hand, (None,)), (world.answer, (2, 0)), (world.answer, (9, None)), (world.give, (1, 2, 1)), (world.give, (1, 1, 0))]:
            self.refused_with(Failed, {"fault": fault}, call, *arguments)
        self.same([world.calm(), world.run(), world.fault()], [[], before, fault])

    def test_decides_early(self):
        telling = says((), ((2, 1),))
        self.fails("early", TWO, BIT, [says((DECIDES,)), IDLE], [("hand", 0)])
        self.fails("early", TWO, BIT, [telling, says((DECIDES, DECIDES))], [("hand", 0), ("give", 1, 2, 1)])
        twice = by_events([(("handed", 0), ((2, 1), (2, 2)), ())])
        self.fails("early", TWO, BIT, [twice, says((DECIDES,))], [("hand", 0), ("give", 1, 2, 1), ("give", 1, 2, 2)])
        beside = Tree(3, [(1, 2, ("letters", 1, 1)), (1, 3, ("letters", 1, 1))])
        self.fails("early", beside, BIT, [says((), ((3, 1),)), IDLE, says((DECIDES,))], [("hand", 0), ("give", 1, 3, 1)])

    def test_decides_a_step_that_was_not_handed(self):
        teller = by_events([(("handed", 0), ((2, 1), (2, 2)), ()), (("comes", 2, 1), (), (DONE,))])
        hearer = by_events([(("comes", 1, 1), ((1, 1),), (DECIDES,)), (("comes", 1, 2), (), (DECIDES,))])
        self.fails("early", TWO, BACK, [teller, hearer], [("hand", 0), ("give", 1, 2, 1), ("give", 2, 1, 1), ("give", 1, 2, 2)])

    def test_decides_when_nobody_has_handed_anything(self):
        """Ahead of the first step nothing comes, so the says of an entry behind an ended text show it."""
        teller = by_events([(("handed", 2), ((2, 1), (2, 2)), ())])
        hearer = by_events([(("comes", 1, 1), (), (("decides", "end"),)), (("comes", 1, 2), (), (("decides", "end"),))])
        self.fails("early", TWO, BACK, [teller, hearer], [("hand", 2), ("give", 1, 2, 1), ("give", 1, 2, 2)])

    def test_done_early(self):
        back = BACK[:1] + BACK[1:]
        self.fails("early", TWO, back, [says((DONE,)), IDLE], [("hand", 0)])
        self.fails("early", TWO, back, [says((), ((2, 1),)), says((DECIDES, DONE))], [("hand", 0), ("give", 1, 2, 1)])
        self.fails("early", TWO, BIT, [says((), ((2, 1),)), says((DECIDES, DONE))], [("hand", 0), ("give", 1, 2, 1)])
        ending = by_events([(("handed", 2), ((2, 1),), ()), (("comes", 2, 1), (), (DONE,))])
        self.fails("early", TWO, BACK, [ending, says((("decides", "end"),), ((1, 1),))], [("hand", 2), ("give", 1, 2, 1), ("give", 2, 1, 1)])
        forward = (("tell", 1, (2,), 1, 2, False), ("tell", 2, (1,), 1, 0, False))
        hearer = says((DECIDES, DONE, DONE))
        self.fails("early", TWO, forward, [says((), ((2, 1),)), hearer], [("hand", 0), ("give", 1, 2, 1)])
        asked = (("ask", 1, (2,), 1, (1,), False),)
        self.fails("early", TWO, asked, [by_events([(("handed", 0), ((2, 1),), ()), (("comes", 2, 1), (), (DONE,))]), says((DECIDES,), ((1, 1),))],
                   [("hand", 0), ("give", 1, 2, 1), ("give", 2, 1, 1)])

    def test_done_before_all_have_decided(self):
        text = (("tell", 1, (2, 3), 1, 2, False),)
        programs = [says((), ((2, 1),)), says((DECIDES, DONE), ((3, 1),)), says((DECIDES,))]
        self.fails("early", THREE, text, programs, [("hand", 0), ("give", 1, 2, 1)])

    def test_answers_early(self):
        asked = (("ask", 1, (2,), 1, (2,), True), ("tell", 1, (2,), 1, 0, False))
        answers = ("answers", (0,))
        self.fails("early", TWO, asked, [says((answers,)), IDLE], [("hand", 0)])
        asker = by_events([(("handed", 0), ((2, 1),), ()), (("comes", 2, 1), (), (answers,))])
        self.fails("early", TWO, asked, [asker, says((DECIDES,), ((1, 1),))], [("hand", 0), ("give", 1, 2, 1), ("give", 2, 1, 1)])
        self.fails("early", TWO, asked, [says((), ((2, 1),)), says((DECIDES, answers))], [("hand", 0), ("give", 1, 2, 1)])
        hearer = by_events([(("comes", 1, 1), (), (DECIDES,)), (("handed", 0), ((1, 1), (1, 2)), ())])
        twice = by_events([(("handed", 0), ((2, 1),), ()), (("comes", 2, 1), (), (answers,)), (("comes", 2, 2), (), (answers,))])
        self.fails("early", TWO, asked, [twice, hearer], [("hand", 0), ("give", 1, 2, 1), ("answer", 2, 0), ("give", 2, 1, 1), ("give", 2, 1, 2)])
        told = (("tell", 1, (2,), 1, 1, False),)
        self.fails("early", TWO, told, [asker, says((DECIDES,), ((1, 1),))], [("hand", 0), ("give", 1, 2, 1), ("give", 2, 1, 1)])
        ended = by_events([(("handed", 1), ((2, 1),), ()), (("comes", 2, 1), (), (answers,))])
        self.fails("early", TWO, asked, [ended, says((("decides", "end"),), ((1, 1),))], [("hand", 1), ("give", 1, 2, 1), ("give", 2, 1, 1)])

    def test_answers_before_all_were_handed(self):
        tree = Tree(3, [(1, 2, ("letters", 1, 1)), (1, 3, ("letters", 1, 1))])
        asker = by_events([(("handed", 0), ((2, 1), (3, 1)), ()), (("comes", 2, 1), (), (("answers", (0, 0)),))])
        hearer = by_events([(("comes", 1, 1), (), (DECIDES,)), (("handed", 0), ((1, 1),), ())])
        text = (("ask", 1, (2, 3), 1, (2, 2), False),)
        self.fails("early", tree, text, [asker, hearer, hearer], [("hand", 0), ("give", 1, 2, 1), ("answer", 2, 0), ("give", 2, 1, 1)])

    def test_whatever_is_said_behind_the_end_of_a_text_fails_early(self):
        for last in [DECIDES, DONE, ("answers", (0,))]:
            teller = by_events([(("handed", 0), ((2, 1), (2, 2)), ())])
            hearer = by_events([(("comes", 1, 1), (), (DECIDES,)), (("comes", 1, 2), (), (last,))])
            self.fails("early", TWO, BIT, [teller, hearer], [("hand", 0), ("give", 1, 2, 1), ("give", 1, 2, 2)])
            hearer = by_events([(("comes", 1, 1), (), (DECIDES, DONE)), (("comes", 1, 2), (), (last,))])
            text = (("tell", 1, (2,), 2, 2, False),)
            self.fails("early", TWO, text, [teller, hearer], [("hand", 0), ("give", 1, 2, 1), ("give", 1, 2, 2)])

    def test_wrong(self):
        telling = says((), ((2, 1),))
        for due in [1, -1, 2, 10 ** 20, "end"]:
            self.fails("wrong", TWO, BIT, [telling, says((("decides", due),))], [("hand", 0), ("give", 1, 2, 1)])
        self.fails("wrong", TWO, BACK, [telling, says((("decides", 2),))], [("hand", 2), ("give", 1, 2, 1)])
        deal = (("deal", 1, (2, 3), (2, 2), 0, False),)
        self.fails("wrong", THREE, deal, [telling, says((("decides", 0),)), IDLE], [("hand", 2), ("give", 1, 2, 1)])
        self.fails(None, THREE, deal, [telling, says((("decides", 0),)), IDLE], [("hand", 1)])

    def test_wrong_answers(self):
        asked = (("ask", 1, (2,), 1, (3,), False),)
        hearer = by_events([(("comes", 1, 1), (), (DECIDES,)), (("handed", 2), ((1, 1),), ())])
        for answers, fault in [((2,), None), ((1,), "wrong"), ((2, 2), "wrong"), ((-1,), "wrong")]:
            asker = by_events([(("handed", 0), ((2, 1),), ()), (("comes", 2, 1), (), (("answers", answers),))])
            self.fails(fault, TWO, asked, [asker, hearer], [("hand", 0), ("give", 1, 2, 1), ("answer", 2, 2), ("give", 2, 1, 1)])

    def test_answers_in_the_order_of_the_hearers(self):
        tree = Tree(3, [(1, 2, ("letters", 2, 2)), (2, 3, ("letters", 2, 2))])
        text = (("ask", 2, (1, 3), 1, (2, 2), False),)
        asker = by_events([(("handed", 0), ((1, 1), (3, 1)), ()), (("comes", 3, 2), (), ()), (("comes", 1, 1), (), (("answers", (0, 1)),))])
        first = by_events([(("comes", 2, 1), (), (DECIDES,)), (("handed", 0), ((2, 1),), ())])
        third = by_events([(("comes", 2, 1), (), (DECIDES,)), (("handed", 1), ((2, 2),), ())])
        entries = [("hand", 0), ("give", 2, 1, 1), ("give", 2, 3, 1), ("answer", 3, 1), ("give", 3, 2, 2), ("answer", 1, 0), ("give", 1, 2, 1)]
        self.fails(None, tree, text, [first, asker, third], entries)

    def test_never(self):
        self.fails("never", TWO, BIT, [IDLE, IDLE], [("hand", 1)])
        self.fails("never", TWO, BIT, [says((), ((2, 1),)), IDLE], [("hand", 1), ("give", 1, 2, 1)])
        self.fails("never", TWO, BACK, [says((), ((2, 1),)), says((DECIDES,))], [("hand", 0), ("give", 1, 2, 1)])
        self.fails("never", TWO, BACK, [IDLE, IDLE], [("hand", 2)])
        asked = (("ask", 1, (2,), 1, (2,), False),)
        hearer = by_events([(("comes", 1, 1), (), (DECIDES,))])
        self.fails("never", TWO, asked, [says((), ((2, 1),)), hearer], [("hand", 0), ("give", 1, 2, 1), ("answer", 2, 1)])
        hearer = by_events([(("comes", 1, 1), (), (DECIDES,)), (("handed", 1), ((1, 1),), ())])
        self.fails("never", TWO, asked, [says((), ((2, 1),)), hearer], [("hand", 0), ("give", 1, 2, 1), ("answer", 2, 1), ("give", 2, 1, 1)])

    def test_not_never_while_something_is_under_way_or_can_be_handed(self):
        self.fails(None, TWO, BIT, [says((), ((2, 1),)), IDLE], [("hand", 1)])
        asked = (("ask", 1, (2,), 1, (2,), False),)
        self.fails(None, TWO, asked, [says((), ((2, 1),)), says((DECIDES,))], [("hand", 0), ("give", 1, 2, 1)])
        self.fails(None, TWO, BIT, [IDLE, IDLE], [])
        forward = (("tell", 1, (2,), 1, 2, False), ("tell", 2, (1,), 1, 0, False))
        self.fails(None, TWO, forward, [says((), ((2, 1),)), says((DECIDES, DONE))], [("hand", 0), ("give", 1, 2, 1)])

    def test_a_wire_that_both_raise_is_not_under_way(self):
        programs = [says((), ((2, 1),)), says((DECIDES,), ((1, 2), (1, 1)))]
        self.fails(None, WIRED, BIT, programs, [("hand", 0), ("give", 1, 2, 1)])
        raising = Table(0, {(0, ("handed", 0)): (0, ((2, 1), (2, 2)), ()), (0, ("comes", 2, 3)): (0, (), (DONE,))})
        answering = Table(0, {(0, ("comes", 1, 1)): (1, ((1, 2),), ())})
        world = World(WIRED, BIT, [raising, answering])
        world.hand(0)
        self.same([world.give(1, 2, 1), world.under_way(), world.fault()], [[], [], "never"])

    def test_says_count_up_to_the_failing_one(self):
        world = World(TWO, BIT, [says((), ((2, 1),)), says((DECIDES, ("decides", 1), DONE))])
        world.hand(0)
        self.same(world.give(1, 2, 1), [(2, DECIDES), (2, ("decides", 1))])
        self.same([world.decided(2), world.fault(), world.done()], [[(0, 0)], "early", 0])
        world = World(TWO, BIT, [says((("decides", 5), DECIDES)), IDLE])
        self.same([world.hand(0), world.decided(1)], [[(1, ("decides", 5))], []])
        world = World(TWO, BIT, [says((), ((2, 1),)), says((("decides", 7), DECIDES))])
        world.hand(0)
        self.same([world.give(1, 2, 1), world.decided(2), world.fault()], [[(2, ("decides", 7))], [], "wrong"])

    def test_what_is_sent_is_sent_ahead_of_the_failing_say(self):
        world = World(TWO, BIT, [says((DONE,), ((2, 3), (2, 1))), IDLE])
        self.same([world.hand(0), world.under_way(), world.line(1, 2).sent(0)], [[(1, DONE)], [(1, 2, 1), (1, 2, 3)], [1, 3]])


class Sends(Case):
    def test_what_cannot_be_sent_is_left_out(self):
        sends = ((1, 1), (3, 1), (2, 0), (2, 4), (2, -1), (0, 1), (2, 3), (4, 1), (-2, 1), (2, 3), (2, 1), (10 ** 20, 1), (2, 10 ** 20))
        world = World(THREE, BIT, [says((), sends), IDLE, IDLE])
        self.same([world.hand(0), world.under_way(), world.line(1, 2).sent(1)], [[], [(1, 2, 1), (1, 2, 3)], []])

    def test_the_kinds_of_each_side(self):
        world = World(TWO, BIT, [says((), ((2, 3),)), says((DECIDES,), ((1, 3), (1, 2)))])
        world.hand(0)
        self.same([world.give(1, 2, 3), world.under_way(), world.line(2, 1).sent(1)], [[(2, DECIDES)], [(2, 1, 2)], [2]])

    def test_what_is_nothing_new_changes_nothing(self):
        hearer = by_events([(("comes", 1, 1), (), (DECIDES,)), (("comes", 1, 1), (), (DONE,))])
        world = World(TWO, BIT, [says((), ((2, 1),)), hearer])
        world.hand(0)
        world.give(1, 2, 1)
        self.same([world.give(1, 2, 1), world.is_over(), world.fault()], [[], True, None])
        self.same(world.run(), [("hand", 0), ("give", 1, 2, 1), ("give", 1, 2, 1)])

    def test_a_wire_that_is_up_is_nothing_new(self):
        hearer = Table(0, {(0, ("comes", 1, 1)): (1, ((1, 2), (1, 1)), (DECIDES,)), (1, ("comes", 1, 2)): (2, (), (DONE,))})
        world = World(WIRED, BIT, [says((), ((2, 1), (2, 2))), hearer])
        world.hand(0)
        self.same([world.give(1, 2, 1), world.under_way(), world.line(1, 2).sent(1)], [[(2, DECIDES)], [], [2]])
        self.same([world.give(1, 2, 2), world.give(2, 1, 2), world.fault(), world.is_over()], [[], [], None, True])
        self.same([world.line(1, 2).come_to(0), world.line(1, 2).come_to(1)], [[], [1]])


class Entries(Case):
    def test_order_of_errors(self):
        tree = Tree(3, [(1, 2, ("letters", 8, 8)), (2, 3, ("wires", 10))])
        world = World(tree, ASKS, made(tree, ASKS, papers(tree, ASKS)))
        before = [world.run(), world.under_way(), world.turn()]
        for wrong in [-1, 3, 10 ** 20] + NO_INTEGERS:
            self.refused(InvalidValue, wrong, world.hand, wrong)
        for end in [1, 2, 3, 0, 4] + NO_INTEGERS:
            self.refused_with(NotAsked, {"end": end}, world.answer, end, None)
        self.lines_and_kinds(world)
        self.same([world.run(), world.under_way(), world.turn()], before)
        world.hand(1)
        for wrong in [0, 3, None]:
            self.refused_with(NoTurn, {}, world.hand, wrong)
        world.calm()
        self.same(world.asked(), [2, 3])
        for wrong in [-1, 2, 3, 10 ** 20] + NO_INTEGERS:
            self.refused(InvalidNumber, wrong, world.answer, 2, wrong)
        for wrong in [-1, 3] + NO_INTEGERS:
            self.refused(InvalidNumber, wrong, world.answer, 3, wrong)
        for end in [1, 0, 4, -2] + NO_INTEGERS:
            self.refused_with(NotAsked, {"end": end}, world.answer, end, None)
        self.same([world.answer(end=3, number=2), world.asked()], [[], [2]])
        self.refused_with(NotAsked, {"end": 3}, world.answer, 3, 0)
        self.lines_and_kinds(world)

    def lines_and_kinds(self, world):
        for u, w in [(1, 3), (3, 1), (1, 1), (0, 1), (1, 4), (-1, 2), (2, None), ("1", 2), (1, True), ([1], 2), (1, [2])]:
            self.refused_with(NoLine, {"u": u, "w": w}, world.give, u, w, None)
            self.refused_with(NoLine, {"u": u, "w": w}, world.line, u, w)
        for kind in [0, -1, 11, 7, 10 ** 20] + NO_INTEGERS:
            self.refused_with(NotSent, {"kind": kind}, world.give, 2, 3, kind)

    def test_not_sent(self):
        world = World(TWO, BIT, [says((), ((2, 2),)), IDLE])
        self.refused_with(NotSent, {"kind": 2}, world.give, 1, 2, 2)
        world.hand(value=0)
        for u, w, kind in [(1, 2, 1), (1, 2, 3), (2, 1, 2), (1, 2, 4)]:
            self.refused_with(NotSent, {"kind": kind}, world.give, u, w, kind)
        self.same([world.run(), world.give(u=1, w=2, kind=2)], [[("hand", 0)], []])

    def test_true_is_no_end_and_no_kind(self):
        tree = Tree(2, [(1, 2, ("letters", 8, 8))])
        text = (("ask", 2, (1,), 2, (2,), False),)
        world = World(tree, text, made(tree, text, papers(tree, text)))
        world.hand(0)
        self.assertIn((2, 1, 1), world.under_way())
        for wrong in [True, [1], "1", None]:
            self.refused_with(NotSent, {"kind": wrong}, world.give, 2, 1, wrong)
        world.calm()
        self.same(world.asked(), [1])
        for wrong in [True, [1], "1", None]:
            self.refused_with(NotAsked, {"end": wrong}, world.answer, wrong, 0)

    def test_greatest_values(self):
        deal = (("deal", 1, (2, 3), (10 ** 12, 10 ** 12), 0, True),)
        idle = [IDLE] * 3
        for value in [10 ** 24 + 1, -1]:
            self.refused(InvalidValue, value, World(THREE, deal, idle).hand, value)
        for value in [0, 10 ** 24 - 1, 10 ** 24]:
            self.same(fault_of(THREE, deal, idle, [("hand", value)]), "never")

    def test_invalid_end(self):
        world = World(TWO, BIT, [IDLE, IDLE])
        for wrong in [0, 3, -1, 10 ** 20] + NO_INTEGERS:
            self.refused(InvalidEnd, wrong, world.decided, wrong)
        self.same([world.decided(end=1), world.decided(2)], [[], []])

    def test_creating(self):
        for wrong in [(), None, list(BIT), BIT + BIT]:
            self.refused(InvalidText, wrong, World, TWO, wrong, None)
            self.refused(InvalidText, wrong, fault_of, TWO, wrong, None, [None])
        for wrong in NO_LISTS + [[], [IDLE], [IDLE] * 3, [IDLE, None], ["Table", IDLE], [IDLE, TWO], [IDLE, [IDLE]], [Line(("wires", 1)), IDLE]]:
            self.refused(InvalidPrograms, wrong, World, TWO, BIT, wrong)
            self.refused(InvalidPrograms, wrong, fault_of, TWO, BIT, wrong, [None])
        programs = [Folded(IDLE, []), made(TWO, BIT, papers(TWO, BIT))[1]]
        self.same(World(tree=TWO, text=BIT, programs=tuple(programs)).turn(), 0)
        world = World(TWO, BIT, programs)
        programs.clear()
        self.same([world.hand(0), world.copy().fault()], [[], "never"])

    def test_who_may_be_handed_what(self):
        tree = Tree(2, [(1, 2, ("letters", 8, 8))])
        text = BACK[:1] + (("ask", 1, (2,), 2, (2,), False), ("tell", 1, (2,), 2, 1, False))
        world = World(tree, text, made(tree, text, papers(tree, text)))
        turns = []
        for _ in range(3):
            turns.append(world.turn())
            world.hand(1)
            turns.append(world.turn())
            world.calm()
            for end in world.asked():
                world.answer(end, 1)
                turns.append((end, world.asked()))
                world.calm()
        self.same(turns, [0, None, 1, None, (2, []), 2, None])
        self.same([world.turn(), world.is_over(), world.done(), world.decided(2)], [None, True, 3, [(0, 1), (1, 1), (2, 1)]])


class Told(Case):
    def test_copies_go_on_apart(self):
        tree = Tree(3, [(1, 2, ("letters", 8, 8)), (2, 3, ("wires", 10))])
        text = ASKS[:1] + (("deal", 1, (2, 3), (2, 2), 0, False),)
        world = World(tree, text, made(tree, text, papers(tree, text)))
        shown = []
        worlds = []
        for entry in [("hand", 1), ("calm",), ("answer", 2, 1), ("calm",), ("answer", 3, 0), ("calm",), ("hand", 3), ("calm",)]:
            worlds.append(world.copy())
            shown.append(self.shown(tree, world))
            getattr(world, entry[0])(*entry[1:])
        self.assertTrue(world.is_over())
        for copy, expected in zip(worlds, shown):
            self.same(self.shown(tree, copy), expected)
            second = copy.copy()
            while not copy.is_over():
                copy.calm()
                for end in copy.asked():
                    copy.answer(end, 0)
                if copy.turn() is not None:
                    copy.hand(0)
            self.same(self.shown(tree, second), expected)
        self.assertNotEqual(self.shown(tree, worlds[0]), self.shown(tree, world))

    def shown(self, tree, world):
        lines = [[world.line(u, w).sent(0), world.line(u, w).sent(1), world.line(u, w).come_to(0)] for u, w, _ in tree.lines]
        ends = [world.decided(end) for end in range(1, tree.ends + 1)]
        return [world.turn(), world.asked(), world.under_way(), world.is_over(), world.fault(), world.done(), world.run(), lines, ends]

    def test_lists_are_new(self):
        world = World(TWO, BIT, [says((), ((2, 1), (2, 2))), says((DECIDES,))])
        for found in [world.hand(0), world.give(1, 2, 1), world.decided(2), world.run(), world.under_way(), world.asked()]:
            found.append(1)
        self.same([world.decided(2), world.run(), world.under_way(), world.asked()], [[(0, 0)], [("hand", 0), ("give", 1, 2, 1)], [(1, 2, 2)], []])

    def test_line_is_a_copy(self):
        world = World(THREE, BIT, [says((), ((2, 1),)), IDLE, IDLE])
        world.hand(0)
        line = world.line(u=2, w=1)
        self.same([type(line) is Line, line.spec, line.under_way(1)], [True, ("letters", 3, 2), [1]])
        line.come(1, 1)
        line.send(0, 2)
        self.same(world.under_way(), [(1, 2, 1)])

    def test_calm(self):
        teller = by_events([(("handed", 0), ((2, 3), (2, 1)), ()), (("comes", 2, 2), (), ())])
        hearer = by_events([(("comes", 1, 1), ((1, 2), (1, 1)), (DECIDES,))])
        world = World(TWO, BIT, [teller, hearer])
        self.same(world.calm(), [])
        world.hand(0)
        self.same(world.calm(), [("give", 1, 2, 1), ("give", 1, 2, 3), ("give", 2, 1, 1), ("give", 2, 1, 2)])
        self.same([world.calm(), world.is_over(), world.under_way()], [[], True, []])
        self.same(world.run(), [("hand", 0), ("give", 1, 2, 1), ("give", 1, 2, 3), ("give", 2, 1, 1), ("give", 2, 1, 2)])

    def test_calm_ends_where_the_run_fails(self):
        world = World(TWO, BIT, [says((), ((2, 1), (2, 2), (2, 3))), by_events([(("comes", 1, 1), (), ()), (("comes", 1, 2), (), (("decides", 1),))])])
        world.hand(0)
        self.same(world.calm(), [("give", 1, 2, 1), ("give", 1, 2, 2)])
        self.same([world.fault(), world.under_way(), world.calm()], ["wrong", [(1, 2, 3)], []])

    def test_under_way_is_ascending(self):
        tree = Tree(3, [(1, 3, ("wires", 4)), (2, 3, ("letters", 2, 2))])
        programs = [says((), ((3, 2), (3, 1))), IDLE, says((), ((2, 2), (1, 3), (2, 1)))]
        world = World(tree, (("tell", 1, (2,), 2, 0, False),), programs)
        world.hand(1)
        world.give(1, 3, 2)
        self.same(world.under_way(), [(1, 3, 1), (3, 1, 3), (3, 2, 1), (3, 2, 2)])

    def test_an_end_that_ends_the_text_ahead_of_others(self):
        tree = Tree(3, [(1, 2, ("letters", 2, 2)), (1, 3, ("letters", 2, 2))])
        text = (("tell", 1, (2, 3), 1, 1, True), ("tell", 1, (2,), 1, 0, False))
        world = World(tree, text, made(tree, text, papers(tree, text)))
        world.hand(1)
        seen = []
        while world.under_way():
            seen.append(world.is_over())
            world.give(*world.under_way()[-1])
        self.same([seen[0], world.is_over(), world.turn(), world.done(), world.fault()], [False, True, None, 0, None])


class FaultOf(Case):
    def test_no_entries(self):
        wrong = NO_LISTS + [
            (), [], ("hand",), ("hand", 0, 0), ["hand", 0], ("give", 1, 2), ("give", 1, 2, 1, 1), ("answer", 1), ("answer", 2, 0, 0), ("calm",),
            (1, 2), ("hand", None), ("hand", 2), ("hand", True), ("Hand", 0), (("hand", 0),), ("give", 1, 2, 2), ("give", 2, 1, 1), ("answer", 2, 0), (TWO, 1), ([], 1),
            ("Give", 1, 2, 1), ("hand", 1, 2, 1), ("Answer", 2, 0), ("give", 0), ("answer", 0),
        ]
        programs = [says((), ((2, 1),)), IDLE]
        for entry in wrong:
            for ahead in [[], [("hand", 0)]]:
                for behind in [[], [None], [("give", 1, 2, 1)]]:
                    run = ahead + [entry] + behind
                    with self.assertRaises(TalkError) as caught:
                        fault_of(TWO, BIT, programs, run)
                    self.same([type(caught.exception) is BadEntry, caught.exception.at], [True, len(ahead)])

    def test_behind_a_failing_entry(self):
        programs = [says((), ((2, 1),)), IDLE]
        right = [("hand", 0), ("give", 1, 2, 1)]
        self.same(fault_of(tree=TWO, text=BIT, programs=programs, run=right), "never")
        for entry in [("give", 1, 2, 1), ("hand", 0), None]:
            self.refused_with(BadEntry, {"at": 2}, fault_of, TWO, BIT, programs, right + [entry, entry])

    def test_600_entries(self):
        programs = [says((), ((2, 1),)), says((DECIDES,))]
        run = [("hand", 0)] + [("give", 1, 2, 1)] * 599
        self.same(fault_of(TWO, BIT, programs, run), None)
        with self.assertRaises(BadEntry) as caught:
            fault_of(TWO, BIT, programs, run[:599] + [("give", 1, 2, 2)])
        self.same(caught.exception.at, 599)
        self.same(fault_of(TWO, BIT, programs, []), None)

    def test_values_of_a_deal(self):
        text = (("deal", 1, (2, 3), (3, 4), 0, True),)
        self.assertEqual(values_of(text[0]), 12)
        for value in range(13):
            self.same(fault_of(THREE, text, [IDLE] * 3, [("hand", value)]), "never")


if __name__ == "__main__":
    unittest.main()
