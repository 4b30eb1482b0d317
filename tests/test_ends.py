"""Points 7 and 101 to 103: the programs of all ends, made from papers."""

import random
import unittest

from tests.helper import NO_LISTS, Case
from tests.lots import all_pairs, just_enough, some_pairs, some_paper, some_text, with_more
from tests.reference import search, values_of
from upforgood.ends import Made, made
from upforgood.errors import InvalidPaper, InvalidText
from upforgood.keeping import is_paper, papers, uses
from upforgood.programs import are_says, are_sends, is_standing
from upforgood.texts import due_of, own_row
from upforgood.trees import Tree, beyond
from upforgood.worlds import World

FIVE = Tree(5, [(1, 2, ("letters", 8, 8)), (2, 3, ("wires", 10)), (2, 4, ("letters", 8, 8)), (4, 5, ("wires", 10))])
TEXT = (("ask", 1, (2, 5), 2, (3, 2), False), ("deal", 1, (3, 4), (2, 2), 5, True), ("tell", 5, (2,), 3, 0, False))


class Play:
    """A run with made programs, of which after each entry all is looked at that points 101 to 103 promise."""

    def __init__(self, case, rng, tree, text, paper, programs):
        self.case, self.rng, self.tree, self.text, self.paper = case, rng, tree, text, paper
        self.world = World(tree, text, programs)
        self.at = -1
        self.value = None
        self.base = self.counts()
        self.given = []

    def counts(self):
        lines = [self.world.line(u, w) for u, w, _ in self.tree.lines]
        return [(len(line.sent(0)), len(line.sent(1))) for line in lines]

    def go_on(self, ending=0.2, again=0.1):
        while True:
            entries = self.entries(ending)
            if not entries:
                return self.end()
            entry = self.rng.choice(entries)
            if entry[0] == "hand":
                self.at, self.value, self.base = self.at + 1, entry[1], self.counts()
            getattr(self.world, entry[0])(*entry[1:])
            if entry[0] == "give":
                self.given.append(entry)
            if self.given and self.rng.random() < again:
                self.world.give(*self.rng.choice(self.given)[1:])
            self.look()

    def entries(self, ending):
        world = self.world
        found = [("give", u, w, kind) for u, w, kind in world.under_way()]
        if world.turn() is not None:
            step = self.text[world.turn()]
            many = values_of(step)
            ends = step[5] and self.rng.random() < ending
            found.append(("hand", many if ends else self.rng.choice([0, many - 1, self.rng.randrange(many)])))
        for end in world.asked():
            step = self.text[self.at]
            many = step[4][step[2].index(end)]
            found.append(("answer", end, self.rng.choice([0, many - 1, self.rng.randrange(many)])))
        return found

    def end(self):
        self.case.assertTrue(self.world.is_over(), (self.tree.lines, self.text, self.world.run()))
        return self.world

    def look(self):
        case, world, step = self.case, self.world, self.text[self.at]
        case.assertIsNone(world.fault(), (self.tree.lines, self.text, world.run()))
        for u, w, spec in self.tree.lines:
            if spec[0] == "wires":
                line = world.line(u, w)
                case.assertEqual(set(line.sent(0)) & set(line.sent(1)), set())
        ended = self.value == values_of(step)
        now = [(a - c, b - d) for (a, b), (c, d) in zip(self.counts(), self.base)]
        allowed = self.first_uses() if ended else uses(self.tree, self.text, self.paper, self.at)
        for got, most in zip(now, allowed):
            case.assertTrue(got[0] <= most[0] and got[1] <= most[1], (self.tree.lines, self.text, world.run()))
        if world.under_way():
            return
        decided = all((self.at, due) in world.decided(end) for end, due in due_of(step, self.value))
        case.assertTrue(decided)
        goes_on = step[0] == "ask" or step[4] != 0
        if not ended and goes_on and not world.asked():
            case.assertEqual(world.done(), self.at + 1)
        if not world.asked():
            case.assertEqual(now, allowed)

    def first_uses(self):
        """What a step that ends the text costs each line, by point 102."""
        found = []
        for (u, w, _), rounds in zip(self.tree.lines, self.paper):
            step = self.text[self.at]
            begun = sum(len(own_row(self.tree, (part,), u, w)) for part in self.text[:self.at])
            row = own_row(self.tree, (step,), u, w)
            speaker = row[0][0] if row else u
            if not row or not set(step[2]) & set(beyond(self.tree, speaker, u + w - speaker)):
                found.append((0, 0))
                continue
            cost = (sum(rounds[begun]), len(rounds[begun]) - 1)
            found.append(cost if speaker == u else cost[::-1])
        return found


class Kept(Case):
    def plays(self, rng, tree, text, paper, times):
        self.assertTrue(is_paper(tree, text, paper))
        for _ in range(times):
            Play(self, rng, tree, text, paper, made(tree, text, paper)).go_on()

    def test_lines_that_are_just_enough(self):
        rng = random.Random(101)
        played = 0
        while played < 120:
            ends = rng.randint(2, 5)
            text = some_text(rng, ends, rng.choice([1, 3, 8]), rng.choice([1, 2, 5, 1000]))
            tree = just_enough(rng, ends, some_pairs(rng, ends), text)
            if tree is not None:
                played += 1
                self.plays(rng, tree, text, papers(tree, text), 2)

    def test_uneven_papers(self):
        rng = random.Random(102)
        played = 0
        while played < 80:
            ends = rng.randint(2, 4)
            text = some_text(rng, ends, rng.choice([1, 3]), rng.choice([1, 2, 5]))
            tree = just_enough(rng, ends, some_pairs(rng, ends), text)
            if tree is not None:
                played += 1
                tree = with_more(rng, tree)
                self.plays(rng, tree, text, some_paper(rng, tree, text), 2)

    def test_all_trees_and_all_ways_of_one_step(self):
        rng = random.Random(103)
        for ends in [2, 3, 4]:
            for pairs in all_pairs(ends):
                for speaker in range(1, ends + 1):
                    for behind in range(ends + 1):
                        text = self.one_step(rng, ends, speaker, behind)
                        tree = just_enough(rng, ends, pairs, text)
                        if tree is not None:
                            self.plays(rng, tree, text, papers(tree, text), 1)

    def one_step(self, rng, ends, speaker, behind):
        hearers = tuple(sorted(rng.sample([end for end in range(1, ends + 1) if end != speaker], rng.randint(1, ends - 1))))
        if rng.random() < 0.5:
            return (("tell", speaker, hearers, rng.randint(1, 3), behind, rng.random() < 0.5),)
        return (("deal", speaker, hearers, tuple([rng.randint(1, 3) for _ in hearers]), behind, rng.random() < 0.5),)

    def test_every_value_and_every_order_of_a_small_text(self):
        tree = Tree(3, [(1, 2, ("letters", 4, 3)), (2, 3, ("wires", 6))])
        text = (("ask", 2, (1, 3), 2, (3, 2), True),)
        paper = [((1, 1), (2,)), ((2,), (1, 1))]
        self.assertTrue(is_paper(tree, text, paper))
        count, shortest, _ = search(tree, text, made(tree, text, paper), 5000)
        self.assertIsNone(shortest)
        self.assertGreater(count, 100)

    def test_first_step_alone_may_be_handed(self):
        for at, text in enumerate([(("tell", 2, (1,), 2, 3, False), ("tell", 3, (1, 2), 2, 3, False)), (("ask", 3, (1,), 2, (2,), False),)]):
            tree = Tree(3, [(1, 2, ("letters", 8, 8)), (1, 3, ("letters", 8, 8))])
            programs = made(tree, text, papers(tree, text))
            for end in (1, 2, 3):
                program = programs[end - 1]
                behind = program.step(program.first(), ("handed", 1))
                self.same(behind == (program.first(), (), ()), end != text[0][1])

    def test_the_greatest_numbers(self):
        rng = random.Random(104)
        tree = Tree(2, [(1, 2, ("letters", 8, 8))])
        for text in [
            (("deal", 1, (2,), (40320,), 0, False),), (("tell", 1, (2,), 40319, 2, True),), (("tell", 2, (1,), 1, 1, False), ("tell", 1, (2,), 1, 2, False)) * 4,
            (("ask", 1, (2,), 6, (24,), False), ("ask", 1, (2,), 2, (2,), True)),
        ]:
            self.assertIsNotNone(papers(tree, text))
            self.plays(rng, tree, text, papers(tree, text), 5)
        wired = Tree(5, [(1, end, ("wires", 10)) for end in range(2, 6)])
        for text in [(("tell", 1, (2, 3, 4, 5), 4000, 0, False),), (("tell", 1, (2, 3, 4, 5), 1, 1, True),) * 5, (("deal", 2, (1, 3, 4, 5), (5, 4, 3, 2), 2, False),)]:
            self.assertIsNotNone(papers(wired, text))
            self.plays(rng, wired, text, papers(wired, text), 5)

    def test_eight_steps_of_five_ends(self):
        rng = random.Random(105)
        played = 0
        while played < 5:
            text = some_text(rng, 5, 8, 2)
            tree = just_enough(rng, 5, some_pairs(rng, 5), text) if len(text) == 8 else None
            if tree is not None:
                played += 1
                self.plays(rng, tree, text, papers(tree, text), 3)


class Programs(Case):
    def test_equal_arguments(self):
        paper = papers(FIVE, TEXT)
        one, other = made(FIVE, TEXT, paper), made(tree=FIVE, text=TEXT, value=tuple(paper))
        self.assertEqual([type(program) for program in one], [Made] * 5)
        self.assertIs(type(one), list)
        for first, second in zip(one, other):
            self.same(first.first(), second.first())
            for event in [("handed", 0), ("handed", 1), ("comes", 2, 1), ("comes", 1, 1)]:
                self.same(first.step(first.first(), event), second.step(standing=first.first(), event=event))

    def test_the_paper_is_not_kept(self):
        paper = papers(FIVE, TEXT)
        programs = made(FIVE, TEXT, paper)
        paper[0] = None
        paper.pop()
        Play(self, random.Random(1), FIVE, TEXT, papers(FIVE, TEXT), programs).go_on()

    def test_every_event_in_every_standing(self):
        rng = random.Random(106)
        played = 0
        while played < 40:
            ends = rng.randint(2, 5)
            text = some_text(rng, ends, rng.choice([1, 3, 5]), rng.choice([1, 2, 4]))
            tree = just_enough(rng, ends, some_pairs(rng, ends), text)
            if tree is None:
                continue
            played += 1
            tree = with_more(rng, tree)
            for end, program in enumerate(made(tree, text, some_paper(rng, tree, text)), 1):
                for _ in range(3):
                    self.walk(rng, tree, end, program)

    def walk(self, rng, tree, end, program):
        """Events of all sorts one behind the other, most of them such as may come in some run."""
        standing = program.first()
        self.assertTrue(is_standing(standing))
        for _ in range(40):
            near = rng.choice(tree.neighbours(end))
            event = rng.choice([
                ("comes", near, rng.randint(1, 8)), ("comes", near, rng.randint(1, 4)), ("comes", rng.randint(-1, 7), rng.randint(-1, 12)), ("comes", end, 1),
                ("handed", rng.randint(0, 2)), ("handed", rng.choice([-1, 0, 5, 100, 10 ** 12, 10 ** 50])), ("comes", near, 10 ** 20), ("comes", -10 ** 20, 1),
            ])
            deed = program.step(standing, event)
            self.same(program.step(standing, event), deed)
            self.assertTrue(isinstance(deed, tuple) and len(deed) == 3)
            self.assertTrue(is_standing(deed[0]) and are_sends(deed[1]) and are_says(deed[2]), deed)
            standing = deed[0]

    def unchanged(self, program, standing, event):
        self.same(program.step(standing, event), (standing, (), ()))

    def test_what_is_not_handed_to_it(self):
        tree = Tree(2, [(1, 2, ("letters", 8, 8))])
        text = (("ask", 1, (2,), 2, (3,), True), ("deal", 1, (2,), (3,), 1, False))
        asker, hearer = made(tree, text, [((1,), (1,), (1,), (1,))])
        for value in [-1, 3, 10 ** 20]:
            self.unchanged(asker, asker.first(), ("handed", value))
            self.unchanged(hearer, hearer.first(), ("handed", value))
        asked, _, said = hearer.step(hearer.first(), ("comes", 1, 2))
        self.same(said, (("decides", 1),))
        for value in [-1, 3, 4, 10 ** 20]:
            self.unchanged(hearer, asked, ("handed", value))
        behind, sends, said = hearer.step(asked, ("handed", 2))
        self.same([sends, said], [((1, 3),), ()])
        self.unchanged(hearer, behind, ("handed", 2))
        for event in [("comes", 1, 2), ("comes", 1, 9), ("comes", 1, 0), ("comes", 2, 1), ("comes", 3, 1)]:
            self.unchanged(hearer, behind, event)

    def test_rounds_that_stand_for_no_value(self):
        tree = Tree(2, [(1, 2, ("letters", 8, 8))])
        for text, said in [((("tell", 1, (2,), 3, 2, False),), 2), ((("deal", 1, (2,), (4,), 2, False),), 3), ((("ask", 1, (2,), 3, (2,), True),), "end")]:
            paper = papers(tree, text) if text[0][0] != "ask" else [((1,), (1,))]
            paper = [((1,),) + paper[0][1:]]
            self.assertTrue(is_paper(tree, text, paper))
            hearer = made(tree, text, paper)[1]
            self.same(hearer.step(hearer.first(), ("comes", 1, 8))[2][0], ("decides", said))

    def test_the_order_of_replies_is_forgotten(self):
        tree = Tree(4, [(1, end, ("letters", 2, 2)) for end in (2, 3, 4)])
        text = (("ask", 1, (2, 3, 4), 2, (2, 2, 2), False),)
        asker = made(tree, text, papers(tree, text))[0]
        behind = asker.step(asker.first(), ("handed", 1))[0]
        found = []
        for order in [(2, 4), (4, 2)]:
            standing = behind
            for near in order:
                standing = asker.step(standing, ("comes", near, 2))[0]
            found.append(standing)
        self.same(found[0], found[1])
        self.same(asker.step(found[0], ("comes", 3, 1))[2], (("answers", (1, 0, 1)),))

    def test_a_text_that_goes_on_behind_its_end(self):
        """Only other programs bring this about."""
        tree = Tree(4, [(1, end, ("letters", 8, 8)) for end in (2, 3, 4)])
        text = (("tell", 2, (3, 4), 1, 3, True), ("tell", 3, (4,), 1, 3, False))
        centre = made(tree, text, papers(tree, text))[0]
        standing, sends, said = centre.step(centre.first(), ("comes", 2, 2))
        self.same([sends, said], [((3, 2), (4, 2)), ()])
        deed = centre.step(standing, ("comes", 3, 1))
        self.same(deed[1:], ((), ()))
        self.assertTrue(is_standing(deed[0]))
        late = centre.step(deed[0], ("comes", 4, 1))
        self.same(late[1:], ((), ()))

    def test_for_another_tree_and_text(self):
        rng = random.Random(107)
        for _ in range(60):
            programs = []
            for _ in range(2):
                text = some_text(rng, 3, 3, 2)
                tree = just_enough(rng, 3, some_pairs(rng, 3), text)
                while tree is None:
                    text = some_text(rng, 3, 2, 2)
                    tree = just_enough(rng, 3, some_pairs(rng, 3), text)
                programs.append(made(tree, text, papers(tree, text)))
            world = World(tree, text, programs[0])
            for _ in range(40):
                if world.fault() is not None or world.is_over():
                    break
                world.calm()
                if world.turn() is not None:
                    world.hand(0)
                for end in world.asked():
                    world.answer(end, 0)
                    break

    def test_errors(self):
        paper = papers(FIVE, TEXT)
        for wrong in NO_LISTS + [[], paper[:3], paper[::-1], paper + [()], [list(plan) for plan in paper], [None] * 4, [()] * 4]:
            self.refused(InvalidPaper, wrong, made, FIVE, TEXT, wrong)
        for wrong in [(), None, list(TEXT), TEXT[1:] + TEXT]:
            self.refused(InvalidText, wrong, made, FIVE, wrong, None)


if __name__ == "__main__":
    unittest.main()
