"""Point 131 against programs that tell by codes as good as any: which kind comes next has to be chosen well.

A code has for each value its rounds: those sent at once, and those sent behind each answer.
The hearer decides as soon as one value is left that goes with what has come, and answers
whenever all may have come that some value has sent so far.
"""

import random
import unittest
from itertools import combinations, product

from tests.helper import Case
from tests.test_rows import all_sizes, many_told
from tests.test_wires import raised_by, used_by
from upforgood.breaking import broken
from upforgood.judging import judged
from upforgood.keeping import can_keep
from upforgood.programs import Table
from upforgood.ranks import raised_of, rounds_of
from upforgood.reach import LetterReach, WireReach
from upforgood.rows import can_tell
from upforgood.trees import Tree
from upforgood.wires import can_raise
from upforgood.worlds import World


def some_rounds(rng, kinds, answers):
    """Any rounds, the first of which may be empty, of kinds that differ."""
    left = rng.sample(range(1, kinds + 1), kinds)
    rounds = []
    for _ in range(rng.randint(1, answers + 1)):
        many = rng.randint(0 if rounds == [] else 1, max(1, len(left)))
        rounds.append(tuple(sorted(left[:many])))
        left = left[many:]
    return tuple(rounds)


def popular(rng, kinds, answers, many):
    """A code with a kind that many values send first, so that none of them begins as another; the first rounds of others do."""
    kind = rng.randint(1, kinds)
    others = [other for other in range(1, kinds + 1) if other != kind]
    code = [tuple(sorted((kind,) + chosen)) for chosen in combinations(others, rng.randint(1, len(others) - 1))]
    rng.shuffle(code)
    pool = [chosen for size in range(1, kinds) for chosen in combinations(others, size)]
    code = code[:many - 1] + [rng.choice(pool) for _ in range(max(1, many - len(code)))]
    return [with_more_rounds(rng, first, kinds, answers) for first in code]


def with_more_rounds(rng, first, kinds, answers):
    left = [kind for kind in range(1, kinds + 1) if kind not in first]
    rounds = (first,)
    for _ in range(answers):
        if left and rng.random() < 0.7:
            chosen = tuple(sorted(rng.sample(left, rng.randint(1, len(left)))))
            left = [kind for kind in left if kind not in chosen]
            rounds += (chosen,)
    return rounds


def sent_by(rounds, answers):
    """What a value has sent behind so many answers."""
    return sorted({kind for chosen in rounds[:answers + 1] for kind in chosen})


class Coded:
    """The programs of a code: end 1 tells end 2, and what it may tell behind is told by one kind each."""

    def __init__(self, code, kinds, answers, wired, back):
        self.code, self.kinds, self.answers, self.wired, self.back = code, kinds, answers, wired, back

    def teller(self):
        rows = {}
        for value, rounds in enumerate(self.code):
            rows[("", ("handed", value))] = ((value, 0), tuple([(2, kind) for kind in rounds[0]]), ())
            for at in range(self.answers):
                later = rounds[at + 1] if at + 1 < len(rounds) else ()
                for kind in range(1, self.kinds + 1) if self.wired else [at + 1]:
                    rows[((value, at), ("comes", 2, kind))] = ((value, at + 1), tuple([(2, kind) for kind in later]), ())
                if not self.wired and self.back:
                    for kind in range(at + 2, self.answers + 1):
                        rows[((value, at), ("comes", 2, kind))] = ("over", (), (("decides", kind - at - 1),))
        return Table("", rows)

    def hearer(self):
        rows = {}
        first = ((), 0, (), tuple(range(len(self.code))))
        todo, met = [first], {first}
        while todo:
            standing = todo.pop()
            came, answered, raised, known = standing
            for kind in range(1, self.kinds + 1):
                if kind in came or kind in raised:
                    continue
                behind, sends, says = self.deed(tuple(sorted(came + (kind,))), answered, raised, known)
                rows[(standing, ("comes", 1, kind))] = (behind, sends, says)
                if isinstance(behind, tuple) and behind not in met and not says:
                    met.add(behind)
                    todo.append(behind)
        if self.back:
            for answered in range(self.answers + 1):
                for value in range(self.back):
                    rows[("over" + str(answered), ("handed", value))] = ("end", ((1, answered + value + 1),), ())
        return Table(first, rows)

    def deed(self, came, answered, raised, known):
        goes = tuple([value for value in known if set(came) <= set(sent_by(self.code[value], answered))])
        if len(goes) == 1:
            says = (("decides", goes[0]), ("done",)) if self.back else (("decides", goes[0]),)
            return "over" + str(answered), (), says
        whole = [value for value in goes if set(sent_by(self.code[value], answered)) - set(raised) == set(came)]
        if not whole:
            return (came, answered, raised, goes), (), ()
        if self.wired:
            free = [kind for kind in range(1, self.kinds + 1) if kind not in came and kind not in raised]
            if free:
                return (came, answered + 1, raised + (free[0],), goes), ((1, free[0]),), ()
        elif answered < self.answers:
            return (came, answered + 1, raised, goes), ((1, answered + 1),), ()
        return (came, answered, raised, goes), (), (("decides", whole[0]),)


class Codes(Case):
    def breaks(self, tree, text, programs):
        run = broken(tree, text, programs)
        world = World(tree, text, programs)
        for entry in run:
            self.assertIsNone(world.fault())
            getattr(world, entry[0])(*entry[1:])
        self.assertIsNotNone(world.fault(), (tree.lines, text, run))
        return world.fault()

    def best(self, kinds, answers, wired):
        """All sizes that tell the most."""
        if wired:
            told = {sizes: raised_by(sizes, kinds) for sizes in all_sizes(kinds) if used_by(sizes) <= kinds}
        else:
            told = {sizes: many_told(kinds, sizes) for sizes in all_sizes(kinds) if len(sizes) <= answers + 1}
        return max(told.values()), [sizes for sizes in told if told[sizes] == max(told.values())]

    def whole_code(self, rng, kinds, answers, wired):
        most, sizes = self.best(kinds, answers, wired)
        chosen = rng.choice(sizes)
        names = list(range(1, kinds + 1))
        return [raised_of(rank, names, chosen) if wired else rounds_of(rank, names, chosen) for rank in range(most)]

    def lines(self):
        return [(4, 0, False), (5, 0, False), (2, 1, False), (3, 1, False), (3, 2, False), (4, 1, False), (4, 2, False), (2, 1, True), (3, 1, True), (4, 1, True), (5, 2, True)]

    def test_the_whole_code_and_one_value_more(self):
        rng = random.Random(1)
        for kinds, answers, wired in self.lines():
            spec = ("wires", kinds) if wired else ("letters", kinds, answers)
            extras = [(chosen,) for many in range(kinds + 1) for chosen in combinations(range(1, kinds + 1), many)]
            extras += [some_rounds(rng, kinds, answers) for _ in range(30)]
            for extra in extras:
                code = self.whole_code(rng, kinds, answers, wired) + [extra]
                rng.shuffle(code)
                text = (("tell", 1, (2,), len(code), 0, False),)
                coded = Coded(code, kinds, answers, wired, 0)
                self.assertFalse(can_keep(Tree(2, [(1, 2, spec)]), text))
                self.breaks(Tree(2, [(1, 2, spec)]), text, [coded.teller(), coded.hearer()])

    def test_whole_codes_keep_their_texts(self):
        """So it is the value more that breaks them."""
        rng = random.Random(5)
        for kinds, answers, wired in self.lines():
            code = self.whole_code(rng, kinds, answers, wired)
            tree = Tree(2, [(1, 2, ("wires", kinds) if wired else ("letters", kinds, answers))])
            coded = Coded(code, kinds, answers, wired, 0)
            self.same(judged(tree, (("tell", 1, (2,), len(code), 0, False),), [coded.teller(), coded.hearer()], 1000), None)

    def test_some_codes(self):
        rng = random.Random(2)
        for kinds, answers, wired in self.lines():
            spec = ("wires", kinds) if wired else ("letters", kinds, answers)
            most = self.best(kinds, answers, wired)[0]
            for _ in range(40):
                code = [some_rounds(rng, kinds, answers) for _ in range(most + 1)]
                text = (("tell", 1, (2,), len(code), 0, False),)
                coded = Coded(code, kinds, answers, wired, 0)
                self.breaks(Tree(2, [(1, 2, spec)]), text, [coded.teller(), coded.hearer()])

    def test_a_kind_that_many_values_send(self):
        """It would be a bad choice to let this kind come first."""
        for kinds, answers in [(4, 0), (5, 0), (6, 0), (3, 1), (4, 1)]:
            tree = Tree(2, [(1, 2, ("letters", kinds, answers))])
            many = self.best(kinds, answers, False)[0] + 1
            for seed in range(60):
                code = popular(random.Random(seed), kinds, answers, many)
                self.assertEqual(len(code), many)
                coded = Coded(code, kinds, answers, False, 0)
                self.breaks(tree, (("tell", 1, (2,), many, 0, False),), [coded.teller(), coded.hearer()])

    def test_codes_ahead_of_a_number(self):
        """The hearer goes on with one of some values; it needs a kind for each, which are not there for answers."""
        rng = random.Random(3)
        for kinds, answers, back in [(2, 2, 2), (3, 2, 2), (3, 3, 2), (3, 3, 3), (4, 3, 2)]:
            tree = Tree(2, [(1, 2, ("letters", kinds, answers))])
            text = [values for values in range(1, 30) if not can_tell([values, back], kinds, answers)][0]
            for _ in range(40):
                code = [some_rounds(rng, kinds, answers) for _ in range(text)]
                if rng.random() < 0.5:
                    sizes = rng.choice([sizes for sizes in all_sizes(kinds) if len(sizes) <= answers + 1])
                    code = [rounds_of(rank % many_told(kinds, sizes), list(range(1, kinds + 1)), sizes) for rank in range(text)]
                coded = Coded(code, kinds, answers, False, back)
                steps = (("tell", 1, (2,), text, 2, False), ("tell", 2, (1,), back, 0, False))
                self.breaks(tree, steps, [coded.teller(), coded.hearer()])

    def test_codes_of_which_one_ends_the_text(self):
        rng = random.Random(4)
        for kinds, answers, wired in self.lines():
            tree = Tree(2, [(1, 2, ("wires", kinds) if wired else ("letters", kinds, answers))])
            for _ in range(20):
                code = self.whole_code(rng, kinds, answers, wired) + [some_rounds(rng, kinds, answers)]
                coded = Coded(code, kinds, answers, wired, 0)
                text = (("tell", 1, (2,), len(code) - 1, 0, True),)
                self.breaks(tree, text, [coded.teller(), self.ending(coded.hearer(), len(code) - 1)])

    def test_an_end_behind_which_nothing_has_to_follow(self):
        """All other values leave what the number behind needs; the end may take all."""
        rng = random.Random(6)
        for kinds, answers, back in [(2, 2, 2), (3, 2, 2), (3, 3, 2), (3, 3, 3), (4, 3, 2)]:
            tree = Tree(2, [(1, 2, ("letters", kinds, answers))])
            most = [values for values in range(1, 30) if not can_tell([values + 1, back], kinds, answers)][0]
            sizes = [sizes for sizes in all_sizes(kinds) if many_told(kinds, sizes) >= most and can_tell([back], answers - len(sizes) + 1, kinds - sum(sizes))]
            text = (("tell", 1, (2,), most, 2, True), ("tell", 2, (1,), back, 0, False))
            for _ in range(30):
                code = [rounds_of(rank, list(range(1, kinds + 1)), rng.choice(sizes[:1])) for rank in range(most)]
                coded = Coded(code + [some_rounds(rng, kinds, answers)], kinds, answers, False, back)
                self.breaks(tree, text, [coded.teller(), self.ending(coded.hearer(), most)])

    def ending(self, table, last):
        rows = {}
        for key, (standing, sends, says) in table.rows().items():
            ends = ("decides", last) in says
            rows[key] = (standing, sends, (("decides", "end"),) if ends else says)
        return Table(table.first(), rows)


class Reaches(Case):
    def test_letters(self):
        for row in [[], [1], [2], [1, 2], [3, 1], [2, 2, 2], [7]]:
            reach = LetterReach(row, 5)
            for own, other in product(range(6), repeat=2):
                follows = can_tell(row, other, own)
                told = [many_told(own, sizes) for sizes in all_sizes(own) if len(sizes) <= other + 1 and can_tell(row, other - len(sizes) + 1, own - sum(sizes))]
                self.same(reach.greatest(own, other), max(told, default=0))
                behind = [many_told(own, sizes) for sizes in all_sizes(own) if len(sizes) <= other and can_tell(row, other - len(sizes), own - sum(sizes))]
                self.same(reach.further(own, other), max([1] + behind) if follows else 0)

    def test_wires(self):
        for row in [[], [1], [2], [1, 2], [3, 1], [2, 2, 2], [10 ** 50]]:
            reach = WireReach(row, 7)
            for wires in range(8):
                told = [raised_by(sizes, wires) for sizes in all_sizes(wires) if used_by(sizes) <= wires and can_raise(row, wires - used_by(sizes))]
                self.same(reach.greatest(wires, 0), max(told, default=0))
                behind = []
                for sizes in all_sizes(max(0, wires - 1)):
                    if used_by(sizes) < wires and can_raise(row, wires - 1 - used_by(sizes)):
                        behind.append(raised_by(sizes, wires - 1))
                self.same(reach.further(wires, 0), max([1] + behind) if can_raise(row, wires) else 0)


if __name__ == "__main__":
    unittest.main()
