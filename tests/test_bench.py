"""Points 231 to 233: texts that lie on a bench beside a tree."""

import random
import time
import unittest
from itertools import product

from tests.helper import NO_INTEGERS, NO_LISTS, Case
from tests.lots import bare_tree, some_pairs, some_text
from upforgood.bench import Bench
from upforgood.errors import InvalidName, InvalidSpec, InvalidText, NoLine, NoText, NothingToRedo, NothingToUndo, TalkError
from upforgood.keeping import barred, can_keep
from upforgood.trees import Tree

LETTERS = [("letters", m, b) for m in range(9) for b in range(9)]
WIRES = [("wires", wires) for wires in range(11)]
WRONG_NAMES = ["", "A", "a1", "a b", "ab ", "abcdefghi", "a_b", "a-b", "\u00e4", "aB", "a\n", None, True, 1, ["a"], ("a",), {}, {"a": 1}, b"a"]
WRONG_SPECS = NO_INTEGERS + [("letters", 9, 1), ("letters", 1), ("wires", 11), ["wires", 2], ("wires", True), ("wires",), ("bells", 1)]
TREE = Tree(3, [(1, 2, ("letters", 3, 2)), (2, 3, ("wires", 5))])
TEXT = (("tell", 1, (2,), 6, 0, False),)
FAR = (("tell", 3, (1,), 3, 1, False), ("tell", 1, (2, 3), 2, 0, True))


def some_spec(rng, most=8):
    return rng.choice([("letters", rng.randint(0, most), rng.randint(0, most)), ("wires", rng.randint(0, most))])


def some_tree(rng, ends):
    return Tree(ends, [(u, w, some_spec(rng)) for u, w in some_pairs(rng, ends)])


def with_spec(tree, u, w, spec):
    return Tree(tree.ends, [(low, high, spec if (low, high) == (u, w) else other) for low, high, other in tree.lines])


class Model:
    """A bench, word by word by the points: all that stands is kept as it was."""

    def __init__(self, tree):
        self.states = [(tree, {})]
        self.undone = []

    def now(self):
        return self.states[-1]

    def does(self, word, *arguments):
        tree, texts = self.now()
        texts = dict(texts)
        if word == "put":
            texts[arguments[0]] = arguments[1]
        elif word == "drop":
            del texts[arguments[0]]
        else:
            u, w, spec = arguments
            tree = with_spec(tree, min(u, w), max(u, w), spec)
        self.states.append((tree, texts))
        self.undone = []

    def undo(self):
        self.undone.append(self.states.pop())

    def redo(self):
        self.states.append(self.undone.pop())


class BenchCase(Case):
    def looks(self, bench, tree, texts, deeds):
        self.same([bench.names(), bench.deeds()], [sorted(texts), deeds])
        self.assertTrue(bench.tree() == tree)
        for name in texts:
            self.same(bench.text(name), texts[name])

    def tells(self, bench, tree, texts):
        """All that is told, against can_keep and barred over other trees."""
        self.same(bench.verdicts(), [(name, can_keep(tree, texts[name])) for name in sorted(texts)])
        for name in texts:
            self.same(bench.barred(name=name), barred(tree, texts[name]))
        kept = [text for text in texts.values() if can_keep(tree, text)]
        for u, w, spec in tree.lines:
            self.same(bench.needs(u, w), [name for name in sorted(texts) if (u, w) in barred(tree, texts[name])])
            self.same(bench.needs(u=w, w=u), bench.needs(u, w))
            fewer = [other for other in LETTERS + WIRES if other[0] == spec[0] and other != spec]
            fewer = [other for other in fewer if all(less <= more for less, more in zip(other[1:], spec[1:]))]
            expected = [other for other in fewer if all(can_keep(with_spec(tree, u, w, other), text) for text in kept)]
            self.same(bench.spare(u, w), expected)
            self.same(bench.spare(u=w, w=u), expected)


class Lies(BenchCase):
    def test_any_deeds(self):
        rng = random.Random(231)
        for _ in range(25):
            ends = rng.randint(2, 4)
            tree = some_tree(rng, ends)
            bench, model = Bench(tree=tree), Model(tree)
            for _ in range(25):
                self.deed(rng, bench, model, ends)
                self.looks(bench, *model.now(), len(model.states) - 1)
            self.tells(bench, *model.now())

    def deed(self, rng, bench, model, ends):
        tree, texts = model.now()
        how = rng.random()
        if how < 0.35 and len(texts) < 8 or not texts and how < 0.6:
            name, text = rng.choice(["a", "b", "c", "abcdefgh", "zz"]), some_text(rng, ends, 2, 3)
            self.same(bench.put(name=name, text=text), None)
            model.does("put", name, text)
        elif how < 0.45:
            name = rng.choice(sorted(texts))
            self.same(bench.drop(name=name), None)
            model.does("drop", name)
        elif how < 0.7:
            u, w, old = rng.choice(tree.lines)
            spec = rng.choice([old, some_spec(rng), some_spec(rng)])
            pair = rng.choice([(u, w), (w, u)])
            self.same(bench.change(u=pair[0], w=pair[1], spec=spec), None)
            model.does("change", u, w, spec)
        elif how < 0.85 and len(model.states) > 1:
            self.same(bench.undo(), None)
            model.undo()
        elif model.undone:
            self.same(bench.redo(), None)
            model.redo()

    def test_names(self):
        bench = Bench(TREE)
        for name in ["a", "z", "abcdefgh", "zzzzzzzz", "nobody"]:
            self.same(bench.put(name, TEXT), None)
        self.same(bench.names(), ["a", "abcdefgh", "nobody", "z", "zzzzzzzz"])
        for wrong in WRONG_NAMES:
            self.refused(InvalidName, wrong, bench.put, wrong, TEXT)
            for call in [bench.drop, bench.text, bench.barred]:
                self.refused_with(NoText, {"name": wrong}, call, wrong)
        self.same(bench.deeds(), 5)

    def test_in_the_place_of_a_text(self):
        bench = Bench(TREE)
        bench.put("a", TEXT)
        bench.put("a", FAR)
        self.looks(bench, TREE, {"a": FAR}, 2)
        bench.put("a", FAR)
        self.looks(bench, TREE, {"a": FAR}, 3)
        bench.undo()
        bench.undo()
        self.looks(bench, TREE, {"a": TEXT}, 1)
        bench.redo()
        self.looks(bench, TREE, {"a": FAR}, 2)

    def test_the_spec_that_the_line_has(self):
        bench = Bench(TREE)
        bench.change(2, 1, ("letters", 3, 2))
        self.looks(bench, TREE, {}, 1)
        bench.change(2, 1, ("letters", 4, 0))
        self.same(bench.tree().lines, ((1, 2, ("letters", 4, 0)), (2, 3, ("wires", 5))))
        bench.undo()
        bench.undo()
        self.looks(bench, TREE, {}, 0)
        self.same(TREE.lines[0], (1, 2, ("letters", 3, 2)))


class Told(BenchCase):
    def test_no_texts(self):
        bench = Bench(TREE)
        self.same([bench.verdicts(), bench.names(), bench.needs(1, 2)], [[], [], []])
        self.same(bench.spare(3, 2), [("wires", wires) for wires in range(5)])
        self.same(bench.spare(1, 2), [("letters", m, b) for m in range(4) for b in range(3) if (m, b) != (3, 2)])
        self.tells(bench, TREE, {})

    def test_spare_keeps_what_is_kept_alone(self):
        """A text that cannot be kept asks for nothing, and a text at another line neither."""
        bench = Bench(TREE)
        bench.put("wide", (("tell", 1, (2,), 7, 0, False),))
        self.same(len(bench.spare(1, 2)), 11)
        bench.put("near", TEXT)
        self.same([bench.verdicts(), bench.spare(1, 2)], [[("near", True), ("wide", False)], [("letters", 3, 1)]])
        bench.change(1, 2, ("letters", 4, 3))
        self.same([bench.spare(2, 1), bench.needs(2, 1)], [[("letters", 4, 1), ("letters", 4, 2)], []])
        bench.drop("wide")
        self.same(bench.spare(2, 1), [("letters", m, b) for m, b in [(3, 1), (3, 2), (3, 3), (4, 0), (4, 1), (4, 2)]])

    def test_many_texts(self):
        rng = random.Random(232)
        for _ in range(12):
            ends = rng.randint(2, 5)
            tree = some_tree(rng, ends)
            texts = {name: some_text(rng, ends, 3, 3) for name in ["a", "b", "c", "d", "e", "f", "g", "h"]}
            bench = Bench(tree)
            for name in rng.sample(sorted(texts), 8):
                bench.put(name, texts[name])
            self.tells(bench, tree, texts)

    def test_compared(self):
        rng = random.Random(233)
        words = {}
        for _ in range(30):
            ends = rng.randint(2, 4)
            pairs = some_pairs(rng, ends)
            bench = Bench(Tree(ends, [(u, w, some_spec(rng)) for u, w in pairs]))
            texts = [some_text(rng, ends, 2, rng.choice([2, 9])) for _ in range(2)]
            for name, text in zip("xy", texts):
                bench.put(name, text)
            expected = []
            for line in bare_tree(ends, pairs).lines:
                expected.append(self.word(ends, pairs, line[:2], texts))
                words[expected[-1]] = True
            self.same(bench.compared(one="x", other="y"), expected)
            turned = {"more": "less", "less": "more"}
            self.same(bench.compared("y", "x"), [turned.get(word, word) for word in expected])
            self.same(bench.compared("x", "x"), ["same"] * len(pairs))
        self.assertEqual(sorted(words), ["less", "more", "same", "unlike"])

    def word(self, ends, pairs, pair, texts):
        tree = bare_tree(ends, pairs)
        told = []
        for text in texts:
            told.append([spec for spec in LETTERS + WIRES if pair not in barred(with_spec(tree, pair[0], pair[1], spec), text)])
        if told[0] == told[1]:
            return "same"
        return "more" if set(told[0]) <= set(told[1]) else "less" if set(told[1]) <= set(told[0]) else "unlike"

    def test_compared_where_no_spec_can(self):
        bench = Bench(Tree(2, [(1, 2, ("wires", 1))]))
        for name, number in [("far", 10 ** 12), ("wide", 40321), ("just", 40320)]:
            bench.put(name, (("tell", 1, (2,), number, 0, False),))
        self.same([bench.compared("far", "wide"), bench.compared("far", "just"), bench.compared("just", "wide")], [["same"], ["more"], ["less"]])


class Undone(BenchCase):
    def test_nothing(self):
        bench = Bench(TREE)
        self.refused_with(NothingToUndo, {}, bench.undo)
        self.refused_with(NothingToRedo, {}, bench.redo)
        bench.put("a", TEXT)
        self.refused_with(NothingToRedo, {}, bench.redo)
        bench.undo()
        self.refused_with(NothingToUndo, {}, bench.undo)
        self.looks(bench, TREE, {}, 0)
        bench.redo()
        self.refused_with(NothingToRedo, {}, bench.redo)
        self.looks(bench, TREE, {"a": TEXT}, 1)

    def test_behind_each_kind_of_deed(self):
        deeds = [("put", "a", TEXT), ("change", 3, 2, ("letters", 8, 8)), ("put", "b", FAR), ("drop", "a"), ("put", "b", TEXT), ("change", 1, 2, ("wires", 10)), ("drop", "b")]
        for many in range(1, len(deeds) + 1):
            bench, model = Bench(TREE), Model(TREE)
            for deed in deeds[:many]:
                getattr(bench, deed[0])(*deed[1:])
                model.does(*deed)
            for back in range(many):
                bench.undo()
                model.undo()
                self.looks(bench, *model.now(), many - back - 1)
            for forth in range(many):
                bench.redo()
                model.redo()
                self.looks(bench, *model.now(), forth + 1)
                self.tells(bench, *model.now())
            bench.undo()
            for deed in [("put", "c", FAR), ("change", 1, 2, ("wires", 0))]:
                getattr(bench, deed[0])(*deed[1:])
                self.refused_with(NothingToRedo, {}, bench.redo)

    def test_a_refused_deed_leaves_what_was_undone(self):
        bench = Bench(TREE)
        bench.put("a", TEXT)
        bench.put("b", FAR)
        bench.undo()
        for call, arguments in [(bench.put, ("a", ())), (bench.put, ("A", TEXT)), (bench.drop, ("b",)), (bench.change, (1, 3, ("wires", 1))), (bench.change, (1, 2, None))]:
            with self.assertRaises(TalkError):
                call(*arguments)
        self.looks(bench, TREE, {"a": TEXT}, 1)
        bench.redo()
        self.looks(bench, TREE, {"a": TEXT, "b": FAR}, 2)

    def test_many(self):
        bench = Bench(TREE)
        rng = random.Random(200)
        for at in range(200):
            how = at % 3
            if how == 0:
                bench.put("abcdefgh"[at % 8], some_text(rng, 3, 2, 3))
            elif how == 1:
                bench.change(2, 1 + 2 * (at % 2), some_spec(rng))
            else:
                bench.drop(rng.choice(bench.names()))
        last = [bench.names(), bench.tree().lines, bench.verdicts()]
        begun = time.perf_counter()
        for _ in range(3):
            for _ in range(200):
                bench.undo()
            self.looks(bench, TREE, {}, 0)
            for _ in range(200):
                bench.redo()
        self.assertLess(time.perf_counter() - begun, 5)
        self.same([[bench.names(), bench.tree().lines, bench.verdicts()], bench.deeds()], [last, 200])


class Errors(BenchCase):
    def test_put(self):
        bench = Bench(TREE)
        for wrong in NO_LISTS + [(), [], list(TEXT), (("tell", 1, (4,), 2, 0, False),), TEXT * 2]:
            for name in ["a", "A", None]:
                self.refused(InvalidText, wrong, bench.put, name, wrong)
        self.looks(bench, TREE, {}, 0)

    def test_lines(self):
        bench = Bench(TREE)
        bench.put("a", TEXT)
        for u, w in product([0, 1, 2, 3, 4, -1, 10 ** 20] + NO_INTEGERS, repeat=2):
            if type(u) is int and type(w) is int and (min(u, w), max(u, w)) in [(1, 2), (2, 3)]:
                for wrong in WRONG_SPECS:
                    self.refused(InvalidSpec, wrong, bench.change, u, w, wrong)
            else:
                for call, more in [(bench.change, (None,)), (bench.change, (("wires", 1),)), (bench.spare, ()), (bench.needs, ())]:
                    self.refused_with(NoLine, {"u": u, "w": w}, call, u, w, *more)
        self.looks(bench, TREE, {"a": TEXT}, 1)

    def test_texts_that_do_not_lie_there(self):
        bench = Bench(TREE)
        bench.put("a", TEXT)
        for wrong in ["b", "A", "aa"] + WRONG_NAMES:
            for call in [bench.drop, bench.text, bench.barred]:
                self.refused_with(NoText, {"name": wrong}, call, wrong)
            self.refused_with(NoText, {"name": wrong}, bench.compared, wrong, "a")
            self.refused_with(NoText, {"name": wrong}, bench.compared, "a", wrong)
            self.refused_with(NoText, {"name": wrong}, bench.compared, wrong, "c")
        bench.drop("a")
        self.refused_with(NoText, {"name": "a"}, bench.drop, "a")
        self.looks(bench, TREE, {}, 2)

    def test_lists_that_are_changed_later(self):
        bench = Bench(TREE)
        bench.put("a", TEXT)
        bench.put("b", FAR)
        calls = [bench.names, bench.verdicts, lambda: bench.barred("b"), lambda: bench.spare(1, 2), lambda: bench.needs(1, 2), lambda: bench.compared("a", "b")]
        for call in calls:
            expected = call()
            call().append("more")
            call().clear()
            self.same(call(), expected)


if __name__ == "__main__":
    unittest.main()
