"""Points 171 to 173: sessions by lines of text."""

import random
import time
import unittest

from tests.helper import NO_INTEGERS, Case
from tests.lots import just_enough, some_pairs, some_text, with_more
from upforgood.ends import made
from upforgood.errors import (
    BadLine, InvalidLine, InvalidNumber, InvalidValue, NoLine, NotAsked, NothingToRedo, NothingToUndo, NotKept, NotNow, NotSent, NoTurn, TalkError,
)
from upforgood.keeping import barred, papers
from upforgood.sessions import Session, play
from upforgood.trees import Tree
from upforgood.worlds import World

THIRTEEN = "1" + "0" * 12
FOURTEEN = "1" + "0" * 13
FORTY_NINE = "1" + "0" * 48
FIFTY = "1" + "0" * 49
# Lines of each form; all but the first ones wait for others, so each of them is refused by NotNow in a new session.
FORMS = """
line 1 2 letters 0 8|line 1 2 wires 10|line 3 40 letters 9 999|line 1 2 wires 0
tell 1 to 2 of 3 then 2|tell 1 to 2 3 of 3 then nobody|tell 1 to 2 of 3 then 2 or end|tell 3 to 1 2 4 5 of 0 then nobody or end
deal 1 to 2 of 3 then 2|deal 1 to 2 3 of 3 4 then nobody|deal 1 to 2 3 of 3 0 9 then 7 or end|deal 1 to 1 of 2 then nobody or end
ask 1 to 2 of 3 answers 2|ask 1 to 2 3 of 3 answers 2 0|ask 1 to 2 3 of 3 answers 2 2 2 or end
keep|start|calm|show|hand 0|hand 12|answer 2 0|answer 12 34|give 1 2 3|give 12 34 56
"""
GOOD = [line for row in FORMS.strip().split("\n") for line in row.split("|")]
# Places of an END or KIND, of a NUMBER, and of a NUMBER behind `hand`.
PLACES = [
    ("line {} 1999999999999 letters 1 1", "end", "1"), ("line 1 {} letters 1 1", "end", "2"), ("line 1 2 letters {} 1", "number", "1"),
    ("line 1 2 letters 1 {}", "number", "1"), ("line 1 {} wires 1", "end", "2"), ("line 1 2 wires {}", "number", "1"),
    ("tell {} to 2 of 3 then 2", "end", "1"), ("tell 1 to {} of 3 then 2", "end", "2"), ("tell 1 to 2 of {} then 2", "number", "3"),
    ("tell 1 to 2 of 3 then {}", "end", "2"), ("tell 1 to 2 {} of 3 then 2 or end", "end", "3"), ("tell 1 to 2 of 3 then {} or end", "end", "2"),
    ("deal {} to 2 of 3 then 2", "end", "1"), ("deal 1 to {} of 3 then 2", "end", "2"), ("deal 1 to 2 of {} then 2", "number", "3"),
    ("deal 1 to 2 3 of 4 {} then 2 or end", "number", "3"), ("deal 1 to 2 of 3 then {}", "end", "2"),
    ("ask {} to 2 of 3 answers 2", "end", "1"), ("ask 1 to {} of 3 answers 2", "end", "2"), ("ask 1 to 2 of {} answers 2", "number", "3"),
    ("ask 1 to 2 of 3 answers {}", "number", "2"), ("ask 1 to 2 3 of 3 answers 1 {} or end", "number", "2"),
    ("hand {}", "handed", "1"), ("answer {} 0", "end", "1"), ("answer 1 {}", "number", "1"), ("give {} 2 1", "end", "1"), ("give 1 {} 1", "end", "2"),
    ("give 1 2 {}", "end", "1"),
]
WRONG_WORDS = ["", "x", "-1", "+1", "1.0", "1_0", "01", "007", "00", "1,", "\u0661", "\u00b2", "0x1", "1\n", "\t1", "one", "True", "nobod", "1e3", ":"]
EXAMPLE = ["ends 2", "line 1 2 letters 3 1", "tell 1 to 2 of 3 then 2"]
ASKED = ["ends 3", "line 2 3 wires 4", "line 1 2 letters 2 2", "ask 1 to 3 of 1 answers 2 or end"]


def started(lines):
    session = Session()
    for line in lines:
        session.do(line)
    return session


def step_line(step):
    word, speaker, hearers, many, behind, may_end = step
    told = f"{word} {speaker} to {' '.join(map(str, hearers))} of "
    told += " ".join(map(str, many)) if word == "deal" else str(many)
    told += " answers " + " ".join(map(str, behind)) if word == "ask" else f" then {behind or 'nobody'}"
    return told + (" or end" if may_end else "")


def tree_lines(tree, rng):
    lines = [f"line {u} {w} " + " ".join(map(str, spec)) for u, w, spec in tree.lines]
    rng.shuffle(lines)
    return [f"ends {tree.ends}"] + lines


def told_of(said):
    if not said:
        return "nothing"
    words = {"decides": lambda say: f"decides {say[1]}", "done": lambda say: "done", "answers": lambda say: "answers " + " ".join(map(str, say[1]))}
    return ", ".join(f"{end} {words[say[0]](say)}" for end, say in said)


def shown(world):
    head = "over" if world.is_over() else "open" if world.turn() is None else f"turn {world.turn()}"
    return ", ".join([head] + [f"{u} {w} {kind}" for u, w, kind in world.under_way()])


class Forms(Case):
    def refused_line(self, session, line):
        self.refused(InvalidLine, line, session.do, line)
        self.refused_with(BadLine, {"at": 0}, play, [line])

    def test_good_ones_wait(self):
        for line in GOOD:
            self.refused_with(NotNow, {}, Session().do, line)
        for number in range(2, 6):
            self.same(Session().do(f"ends {number}"), "ends")

    def test_near_misses(self):
        session = Session()
        for line in GOOD + ["ends 3"]:
            words = line.split(" ")
            misses = [line.replace(" ", "  ", 1) if " " in line else line + "  ", " " + line, line + " ", line + "\n", "\n" + line, line.replace(" ", "\t") + "\t"]
            misses += [line.upper(), line[0].upper() + line[1:], line + ",", line + " or", line + " end", "or end " + line, line + " 0 x", line + " ;"]
            for at in range(len(words)):
                misses += [" ".join(words[:at] + ["x"] + words[at:]), " ".join(words[:at] + [""] + words[at + 1:])]
                if not words[at].isdigit() and words[at:] != ["or", "end"]:
                    misses.append(" ".join(words[:at] + words[at + 1:]))
                    misses.append(" ".join(words[:at] + [words[at] + "s"] + words[at + 1:]))
                    misses.append(" ".join(words[:at] + [words[at], words[at]] + words[at + 1:]))
            for at in range(len(words) - 1):
                # In a deal with several hearers the last one may as well be the first number.
                moves_a_hearer = words[0] == "deal" and words[at + 1] == "of"
                if not (words[at].isdigit() and words[at + 1].isdigit()) and not moves_a_hearer:
                    misses.append(" ".join(words[:at] + [words[at + 1], words[at]] + words[at + 2:]))
            for miss in misses:
                with self.subTest(miss):
                    self.refused_line(session, miss)
        self.same(session.lines(), [])

    def test_words_left_out(self):
        for line in [
            "line 1 2 letters 1", "line 1 2 letters 1 1 1", "line 1 2 wires", "line 1 2 wires 1 1", "line 1 letters 1 1", "line 1 2 3 wires 1", "line 2 1 wires 1",
            "line 2 2 letters 1 1", "line 1 2 letters wires 1", "line 1 2 wires 1 letters 1", "line 1 2", "line", "tell 1 to of 3 then 2", "tell to 2 of 3 then 2",
            "tell 1 to 2 of then 2", "tell 1 to 2 of 3 then", "tell 1 2 to 2 of 3 then 2", "tell 1 to 2 of 3 4 then 2", "tell 1 to 2 of 3 then 2 3",
            "tell 1 to 2 of 3 then nobody nobody", "tell 1 to 2 of 3 then 2 nobody", "tell 1 to 2 of 3", "tell 1 to 2 of 3 or end", "tell 1 to 2 of 3 answers 2",
            "tell 1 to 2 of 3 then 2 or end or end", "tell nobody to 2 of 3 then 2", "tell 1 to nobody of 3 then 2", "deal 1 to 2 of then 2", "deal 1 to 2 of 3 then",
            "deal 1 to 2 of 3 answers 2", "ask 1 to 2 of 3 then 2", "ask 1 to 2 of 3 answers", "ask 1 to 2 of 3 4 answers 2", "ask 1 to 2 of 3 answers nobody",
            "ask 1 to 2 of 3 answers 2 then 1", "ask 1 to 2 of 3 answers or end", "hand", "hand 1 2", "answer 1", "answer 1 2 3", "give 1 2", "give 1 2 3 4", "keep 1",
            "start now", "calm 1", "show 0", "ends", "ends 2 3", "end 2", "", " ", "nothing", "nobody", "or end", "run", "over", "ends two", "undo", "redo",
        ]:
            self.refused_line(Session(), line)

    def test_ends_do_not_ascend(self):
        for hearers in ["3 2", "2 2", "2 3 3", "2 4 3", "5 1", "10 9"]:
            for line in [f"tell 1 to {hearers} of 2 then 1", f"deal 1 to {hearers} of 2 2 then 1", f"ask 1 to {hearers} of 2 answers 2 2"]:
                self.refused_line(Session(), line)
        self.refused_with(NotNow, {}, Session().do, "tell 1 to 9 10 of 2 then 1")

    def test_digits(self):
        session = Session()
        for form, sort, good in PLACES:
            self.refused_with(NotNow, {}, session.do, form.format(good))
            long = THIRTEEN if form.startswith("line {}") else "9" * 13
            self.refused_with(NotNow, {}, session.do, form.format(FORTY_NINE if sort == "handed" else long))
            for wrong in WRONG_WORDS + [FIFTY] + ([] if sort == "handed" else [FOURTEEN]):
                self.refused_line(session, form.format(wrong))
            if sort == "end":
                self.refused_line(session, form.format("0"))
            elif good != "0":
                self.refused_with(NotNow, {}, session.do, form.format("0"))

    def test_no_strings(self):
        session = started(["ends 2"])
        for wrong in NO_INTEGERS + [0, 1, ["keep"], ("ends", 2), b"keep", ["ends 2"]]:
            if not isinstance(wrong, str):
                self.refused_line(session, wrong)
        self.same(session.lines(), ["ends 2"])


class When(Case):
    def not_now(self, session, lines):
        before = session.lines()
        for line in lines:
            self.refused_with(NotNow, {}, session.do, line)
        self.same(session.lines(), before)

    def test_each_moment(self):
        entries = ["hand 0", "answer 2 0", "give 1 2 1", "calm", "show"]
        step = "tell 1 to 2 of 3 then 2"
        session = started(["ends 3"])
        self.not_now(session, [step, "keep", "start"] + entries)
        session.do("line 1 2 wires 5")
        self.not_now(session, [step, "keep", "start"] + entries)
        session.do("line 1 3 wires 5")
        self.not_now(session, ["line 2 3 wires 5", "line 1 2 wires 5", "line 4 9 wires 99", "keep", "start"] + entries)
        session.do(step)
        self.not_now(session, ["line 1 2 wires 5"] + entries)
        self.same([session.do("keep"), session.do("start"), session.do("show")], ["yes", "started", "turn 0"])
        self.same(session.do("tell 2 to 1 of 2 then 3"), "step")
        self.not_now(session, entries)
        self.same(session.do("start"), "started")
        self.same(session.do("ends 2"), "ends")
        self.not_now(session, [step, "keep", "start"] + entries)
        self.same([session.do("line 1 2 letters 1 1")], ["line"])
        self.not_now(session, ["keep", "start"] + entries)

    def test_ends(self):
        for line in ["ends 0", "ends 1", "ends 6", "ends 12", "ends " + THIRTEEN]:
            for lines in [[], ["ends 2"], EXAMPLE]:
                session = started(lines)
                self.refused(InvalidLine, line, session.do, line)
                self.same(session.lines(), lines)

    def test_lines_of_trees(self):
        session = started(["ends 4"])
        for line in ["line 1 5 wires 1", "line 4 5 wires 1", "line 1 2 wires 11", "line 1 2 letters 9 1", "line 1 2 letters 1 9", "line 1 2 wires " + THIRTEEN]:
            self.refused(InvalidLine, line, session.do, line)
        self.same(session.do("line 1 2 letters 8 0"), "line")
        for line in ["line 1 2 letters 8 0", "line 1 2 wires 1", "line 2 5 wires 1"]:
            self.refused(InvalidLine, line, session.do, line)
        self.same(session.do("line 3 4 wires 10"), "line")
        self.refused(InvalidLine, "line 3 4 wires 10", session.do, "line 3 4 wires 10")
        self.same(session.do("line 2 4 wires 0"), "line")
        self.same(session.lines(), ["ends 4", "line 1 2 letters 8 0", "line 3 4 wires 10", "line 2 4 wires 0"])
        ring = started(["ends 4", "line 1 4 wires 1", "line 2 4 wires 1"])
        self.refused(InvalidLine, "line 1 2 wires 1", ring.do, "line 1 2 wires 1")
        self.same(ring.do("line 1 3 wires 1"), "line")

    def test_steps(self):
        lines = ["ends 3", "line 1 2 wires 9", "line 1 3 wires 9"]
        session = started(lines)
        for line in [
            "tell 1 to 1 of 2 then 2", "tell 1 to 4 of 2 then 2", "tell 4 to 1 of 2 then 2", "tell 1 to 2 of 0 then 2", "tell 1 to 2 of 2 then 4",
            "tell 1 to 2 of 1000000000001 then 2", "deal 1 to 2 3 of 2 then 1", "deal 1 to 2 of 2 2 then 1", "deal 1 to 2 3 of 2 0 then 1", "ask 1 to 2 of 0 answers 1",
            "ask 1 to 2 3 of 1 answers 1", "ask 1 to 2 of 1 answers 0", "ask 1 to 2 of 1 answers 1 1",
        ]:
            self.refused(InvalidLine, line, session.do, line)
        self.same(session.do("tell 1 to 2 of 1000000000000 then 2"), "step")
        for line in ["tell 1 to 2 of 2 then 2", "ask 3 to 1 of 2 answers 2"]:
            self.refused(InvalidLine, line, session.do, line)
        self.same(session.do("ask 2 to 1 3 of 2 answers 2 1 or end"), "step")
        self.refused(InvalidLine, "tell 1 to 2 of 2 then 2", session.do, "tell 1 to 2 of 2 then 2")
        self.same(session.do("tell 2 to 1 of 2 then nobody"), "step")
        for line in ["tell 1 to 2 of 2 then 2", "tell 2 to 1 of 2 then 2"]:
            self.refused(InvalidLine, line, session.do, line)
        many = started(lines + ["tell 1 to 2 of 1 then 1"] * 8)
        self.refused(InvalidLine, "tell 1 to 2 of 1 then 1", many.do, "tell 1 to 2 of 1 then 1")
        self.same(many.do("keep"), "no 1 2")

    def test_the_order_of_the_errors(self):
        """The form comes first, then the moment, then what the line says."""
        for line in ["line 1 9 wires 99", "tell 1 to 1 of 0 then 9", "deal 1 to 2 3 of 1 then 2"]:
            self.refused_with(NotNow, {}, Session().do, line)
        full = started(["ends 2", "line 1 2 wires 1"])
        self.refused_with(NotNow, {}, full.do, "line 7 9 wires 99")
        self.refused(InvalidLine, "tell 1 to 1 of 0 then 9", full.do, "tell 1 to 1 of 0 then 9")
        self.refused(InvalidLine, "line 2 1 wires 99", full.do, "line 2 1 wires 99")
        self.refused_with(NotNow, {}, full.do, "hand " + FORTY_NINE)
        full.do("tell 1 to 2 of 2 then nobody")
        self.refused_with(NotKept, {}, full.do, "start")
        self.same(full.do("keep"), "no 1 2")
        self.refused_with(NotNow, {}, full.do, "show")

    def test_keep_with_several_lines(self):
        lines = ["ends 4", "line 2 3 wires 1", "line 3 4 letters 0 1", "line 1 2 letters 1 0"]
        session = started(lines + ["tell 1 to 2 3 4 of 2 then nobody"])
        self.same(session.do("keep"), "no 1 2, 2 3, 3 4")
        session = started(lines + ["tell 2 to 3 of 1 then nobody"])
        self.same(session.do("keep"), "yes")
        session = started(lines + ["tell 1 to 2 3 of 1 then 2 or end"])
        self.same(session.do("keep"), "no 1 2, 2 3")


class Runs(Case):
    def refused_by_value(self, error, given, session, line):
        with self.assertRaises(error) as caught:
            session.do(line)
        self.same(caught.exception.given, given)

    def test_errors_of_a_world(self):
        session = started(EXAMPLE + ["start"])
        self.refused_by_value(InvalidValue, 3, session, "hand 3")
        self.refused_by_value(InvalidValue, 10 ** 48, session, "hand " + FORTY_NINE)
        self.refused_with(NotAsked, {"end": 2}, session.do, "answer 2 0")
        self.refused_with(NoLine, {"u": 1, "w": 3}, session.do, "give 1 3 1")
        self.refused_with(NoLine, {"u": 1, "w": 1}, session.do, "give 1 1 1")
        self.refused_with(NotSent, {"kind": 1}, session.do, "give 1 2 1")
        self.same([session.do("hand 2"), session.do("show")], ["nothing", "open, 1 2 3"])
        self.refused_with(NoTurn, {}, session.do, "hand 0")
        self.refused_with(NotSent, {"kind": 1}, session.do, "give 1 2 1")
        self.same(session.lines(), EXAMPLE + ["start", "hand 2", "show"])
        desk = started(ASKED + ["start", "hand 0", "calm"])
        self.refused_by_value(InvalidNumber, 2, desk, "answer 3 2")
        self.refused_with(NotAsked, {"end": 2}, desk.do, "answer 2 0")
        self.same([desk.do("answer 3 1"), desk.do("calm") != "0", desk.do("show")], ["nothing", True, "over"])

    def test_what_is_said(self):
        session = started(EXAMPLE[:2] + ["tell 1 to 2 of 3 then 2 or end", "start"])
        self.refused_with(NotKept, {}, started(EXAMPLE + ["tell 2 to 1 of 2 then nobody"]).do, "start")
        self.same([session.do("hand 3"), session.do("calm") != "0", session.do("show")], ["nothing", True, "over"])
        lines = ["ends 3", "line 1 2 letters 8 8", "line 1 3 letters 8 8", "ask 1 to 2 3 of 1 answers 2 3", "start", "hand 0"]
        asker = started(lines)
        told = []
        for line in ["give 1 2 1", "give 1 3 1", "answer 3 2", "answer 2 0"]:
            told.append(asker.do(line))
        self.same(told, ["2 decides 0", "3 decides 0", "nothing", "nothing"])
        while asker.do("show") != "over":
            told.append(asker.do("give " + asker.do("show").split(", ")[1]))
        self.same(told[-1], "1 answers 0 2")

    def test_against_a_world(self):
        rng = random.Random(171)
        words = {}
        for _ in range(60):
            ends = rng.randint(2, 5)
            pairs, text = some_pairs(rng, ends), some_text(rng, ends, 3, 3)
            tree = just_enough(rng, ends, pairs, text)
            if tree is None:
                continue
            tree = with_more(rng, tree)
            session = started(tree_lines(tree, rng))
            for step in text:
                self.same(session.do(step_line(step)), "step")
            self.same([session.do("keep"), session.do("start")], ["yes", "started"])
            self.runs(rng, session, World(tree, text, made(tree, text, papers(tree, text))), text, words)
        self.assertEqual(sorted(words), ["answers", "calm", "decides", "done", "end", "nothing"])

    def runs(self, rng, session, world, text, words):
        while True:
            self.same(session.do("show"), shown(world))
            under_way, asked = world.under_way(), world.asked()
            if under_way and rng.random() < 0.8:
                u, w, kind = rng.choice(under_way)
                told, said = session.do(f"give {u} {w} {kind}"), world.give(u, w, kind)
            elif asked:
                end = rng.choice(asked)
                step = text[world.done()]
                number = rng.randrange(step[4][step[2].index(end)])
                told, said = session.do(f"answer {end} {number}"), world.answer(end, number)
            elif world.turn() is not None:
                value = rng.randrange(self.many(text[world.turn()]))
                told, said = session.do(f"hand {value}"), world.hand(value)
            else:
                told, made_entries = session.do("calm"), world.calm()
                self.same(told, str(len(made_entries)))
                words["calm"] = True
                if world.is_over():
                    return
                continue
            self.same(told, told_of(said))
            for word in ["answers", "decides", "done", "end", "nothing"]:
                if word in told.split(" ") or f"{word}," in told:
                    words[word] = True

    def many(self, step):
        many = 1
        for number in step[3] if step[0] == "deal" else [step[3]]:
            many *= number
        return many + int(step[5])

    def test_a_deal_of_many_values(self):
        lines = ["ends 2", "line 1 2 letters 8 8", "deal 1 to 2 of 40320 then nobody", "start"]
        session = started(lines)
        self.refused_by_value(InvalidValue, 40320, session, "hand 40320")
        self.same([session.do("hand 40319"), session.do("calm") != "0", session.do("show")], ["nothing", True, "over"])

    def test_keep_and_start_against_the_package(self):
        rng = random.Random(172)
        for _ in range(60):
            ends = rng.randint(2, 4)
            lines = []
            for u, w in some_pairs(rng, ends):
                lines.append((u, w, rng.choice([("letters", rng.randint(0, 4), rng.randint(0, 4)), ("wires", rng.randint(0, 6))])))
            tree, text = Tree(ends, lines), some_text(rng, ends, 2, 3)
            session = started(tree_lines(tree, rng) + [step_line(step) for step in text])
            bars = barred(tree, text)
            self.same(session.do("keep"), "no " + ", ".join(f"{u} {w}" for u, w in bars) if bars else "yes")
            if bars:
                self.refused_with(NotKept, {}, session.do, "start")
                self.refused_with(NotNow, {}, session.do, "show")
            else:
                self.same([session.do("start"), session.do("show")], ["started", "turn 0"])

    def test_start_begins_a_new_run(self):
        session = started(EXAMPLE + ["start", "hand 1", "calm"])
        self.same([session.do("show"), session.do("start"), session.do("show")], ["over", "started", "turn 0"])


class Plays(Case):
    def test_play(self):
        self.same(play([]), [])
        self.same(play(()), [])
        self.same(play(tuple(EXAMPLE)), ["ends", "line", "step"])
        told = play(EXAMPLE + ["keep"])
        told.clear()
        self.same(play(lines=EXAMPLE + ["keep"]), ["ends", "line", "step", "yes"])

    def test_many_lines(self):
        self.same(play(["ends 2"] * 200), ["ends"] * 200)
        self.too_many(201, play, ["ends 2"] * 201)
        self.too_many(201, play, ["wrong"] * 201)
        self.too_many(1000, play, [None] * 1000)

    def test_bad_lines(self):
        for at in range(5):
            for wrong in ["", "keep ", "ends 9", "hand 0", None, 7, ["keep"], "answer 1 1"]:
                lines = (EXAMPLE + ["keep", "start"])[:at] + [wrong] + ["wrong", "ends 2"]
                if at == 5 and wrong == "hand 0":
                    continue
                self.refused_with(BadLine, {"at": at}, play, lines)
        self.refused_with(BadLine, {"at": 199}, play, ["ends 2"] * 199 + ["keep"])
        self.refused_with(BadLine, {"at": 5}, play, EXAMPLE + ["start", "hand 2", "hand 2"])
        self.refused_with(BadLine, {"at": 3}, play, EXAMPLE[:2] + ["tell 1 to 2 of 7 then nobody", "start"])


class Undone(Case):
    def test_nothing(self):
        session = Session()
        self.refused_with(NothingToUndo, {}, session.undo)
        self.refused_with(NothingToRedo, {}, session.redo)
        session.do("ends 2")
        self.refused_with(NothingToRedo, {}, session.redo)
        self.same([session.undo(), session.lines()], [None, []])
        self.refused_with(NothingToUndo, {}, session.undo)
        self.refused_with(NotNow, {}, session.do, "line 1 2 wires 1")
        self.refused(InvalidLine, "wrong", session.do, "wrong")
        self.same([session.redo(), session.lines(), session.do("line 1 2 wires 1")], [None, ["ends 2"], "line"])
        self.refused_with(NothingToRedo, {}, session.redo)

    def test_behind_each_kind_of_line(self):
        lines = ASKED + ["keep", "start", "show", "hand 0", "calm", "answer 3 1", "show", "calm", "ask 1 to 2 of 1 answers 1", "keep", "ends 2", "line 1 2 wires 3"]
        lines += ["tell 2 to 1 of 2 then 1", "start", "hand 1", "give 2 1 2", "give 2 1 2", "show", "ends 5"]
        answers = play(lines)
        for at in range(1, len(lines) + 1):
            session = started(lines[:at])
            session.undo()
            self.same(session.lines(), lines[:at - 1])
            self.same([session.do(line) for line in lines[at - 1:]], answers[at - 1:])
            session = started(lines)
            for _ in range(at):
                session.undo()
            self.same(session.lines(), lines[:len(lines) - at])
            for _ in range(at):
                self.same(session.redo(), None)
            self.same(session.lines(), lines)
            self.refused_with(NothingToRedo, {}, session.redo)

    def test_a_new_line_ends_what_was_undone(self):
        session = started(EXAMPLE + ["start", "hand 0"])
        session.undo()
        session.undo()
        self.refused(InvalidLine, "ends 9", session.do, "ends 9")
        self.refused_with(NotNow, {}, session.do, "hand 0")
        session.redo()
        self.same(session.do("show"), "turn 0")
        self.refused_with(NothingToRedo, {}, session.redo)
        self.same(session.lines(), EXAMPLE + ["start", "show"])

    def test_in_any_order(self):
        rng = random.Random(173)
        for _ in range(25):
            ends = rng.randint(2, 4)
            text = some_text(rng, ends, 2, 3)
            tree = just_enough(rng, ends, some_pairs(rng, ends), text)
            if tree is None:
                continue
            lines = tree_lines(tree, rng) + [step_line(step) for step in text] + ["keep", "start", "hand 0", "show", "calm", "answer 1 0", "answer 2 0", "calm"]
            self.plays(rng, lines + ["hand 0", "hand 1", "show", "calm", "start", "ends 2"])

    def plays(self, rng, lines):
        session, stand, undone = Session(), [], []
        for _ in range(50):
            how = rng.random()
            if how < 0.25 and stand:
                session.undo()
                undone.append(stand.pop())
            elif how < 0.45 and undone:
                session.redo()
                stand.append(undone.pop())
            else:
                line = lines[len(stand)] if len(stand) < len(lines) and rng.random() < 0.8 else rng.choice(lines)
                twin = started(stand)
                told = self.told(twin, line)
                self.same(self.told(session, line), told)
                if told[0] == "told":
                    stand.append(line)
                    undone = []
            self.same(session.lines(), stand)

    def told(self, session, line):
        try:
            return ("told", session.do(line))
        except TalkError as error:
            return (type(error).__name__, sorted(vars(error).items()))

    def test_many(self):
        lines = ASKED[:3] + ["ask 1 to 3 of 1 answers 2 or end", "tell 1 to 2 of 1 then 3"][:1] + ["start", "hand 0"]
        lines += ["calm", "answer 3 1", "calm", "show", "start", "hand 0"] * 32
        lines = (lines + ["keep"] * 200)[:200]
        session = started(lines)
        begun = time.perf_counter()
        for _ in range(3):
            for _ in lines:
                session.undo()
            self.refused_with(NothingToUndo, {}, session.undo)
            for _ in lines:
                session.redo()
        self.assertLess(time.perf_counter() - begun, 5)
        self.same(session.lines(), lines)

    def test_lists_that_are_changed_later(self):
        session = started(EXAMPLE)
        session.lines().clear()
        session.lines().append("more")
        self.same(session.lines(), EXAMPLE)


if __name__ == "__main__":
    unittest.main()
