"""Points 221 to 223: records that are written, read, and found to be true or not."""

import random
import time
import unittest

from tests.helper import NO_INTEGERS, NO_LISTS, Case
from tests.lots import just_enough, some_pairs, some_text
from tests.programs_of import near_misses, right_tables, some_table
from tests.test_sessions import FIFTY, FORTY_NINE, FOURTEEN, THIRTEEN, step_line, told_of
from upforgood.ends import made
from upforgood.errors import BadEntry, BadLine, InvalidPrograms, InvalidText
from upforgood.keeping import papers
from upforgood.merging import least_table, least_tables
from upforgood.programs import Folded, Table
from upforgood.records import is_true, read_record, record_of, untruth
from upforgood.trees import Tree
from upforgood.worlds import World

TREE = Tree(2, [(1, 2, ("letters", 2, 0))])
TEXT = (("tell", 1, (2,), 2, 0, False),)
TELLER = Table("", {("", ("handed", 0)): ("", ((2, 1),), ()), ("", ("handed", 1)): ("", ((2, 1), (2, 2)), ())})
HEARER = Table("", {
    ("", ("comes", 1, 1)): ("", (), (("decides", 0),)), ("", ("comes", 1, 2)): ("two", (), ()), ("two", ("comes", 1, 1)): ("", (), (("decides", 1),)),
})
RUN = [("hand", 1), ("give", 1, 2, 2), ("give", 1, 2, 1)]
LINES = record_of(TREE, TEXT, [TELLER, HEARER], RUN)
# A record of three ends, with a question, of which the programs do next to nothing.
LONG = [
    "ends 3", "line 2 3 wires 4", "line 1 2 letters 2 8", "ask 1 to 2 3 of 2 answers 2 3 or end", "deal 1 to 2 3 of 2 2 then 3", "tell 3 to 1 of 1 then nobody or end",
    "program 1", "at 0 comes 2 1 goes 1 sends 3 1, 3 2 says decides 0", "at 0 handed 4 goes 2", "at 1 handed 0 goes 1 says done, answers 0 2, decides end",
    "program 2", "program 3", "at 399 comes 0 0 goes 400 sends 0 0", "run", "hand 1 : nothing", "give 1 2 1 : 2 decides 0, 1 answers 0 2", "answer 3 0 : 3 decides end, 2 done",
    "open",
]


def line_of(u, w, spec):
    return f"line {u} {w} " + " ".join(map(str, spec))


def row_line(key, deed):
    (standing, event), (behind, sends, says) = key, deed
    told = f"at {standing} " + " ".join(map(str, event)) + f" goes {behind}"
    if sends:
        told += " sends " + ", ".join(f"{near} {kind}" for near, kind in sends)
    if says:
        told += " says " + ", ".join(told_of([(0, say)])[2:] for say in says)
    return told


def written(tree, text, programs, run):
    """A record, word by word by points 221 and 222."""
    lines = [f"ends {tree.ends}"] + [line_of(*line) for line in tree.lines] + [step_line(step) for step in text]
    for at, program in enumerate(programs):
        lines.append(f"program {at + 1}")
        lines += [row_line(key, deed) for key, deed in sorted(least_table(program).rows().items())]
    world = World(tree, text, programs)
    lines.append("run")
    for entry in run:
        said = getattr(world, entry[0])(*entry[1:])
        lines.append(" ".join(map(str, entry)) + " : " + told_of(said))
    return lines + [f"fault {world.fault()}" if world.fault() else "over" if world.is_over() else "open"]


def some_run(rng, world, text, most):
    for _ in range(rng.randint(0, most)):
        under_way, asked = world.under_way(), world.asked()
        if world.fault() is not None:
            break
        if under_way and rng.random() < 0.7:
            world.give(*rng.choice(under_way))
        elif asked:
            world.answer(rng.choice(asked), 0)
        elif world.turn() is not None:
            world.hand(rng.randrange(2) if text[world.turn()][5] else 0)
        elif world.run():
            given = [entry for entry in world.run() if entry[0] == "give"]
            if given:
                world.give(*rng.choice(given)[1:])
    return world.run()


def some_lot(rng):
    """A tree, a text, tables of many forms, and a run with them."""
    while True:
        ends = rng.randint(2, 4)
        text = some_text(rng, ends, 3, 2)
        tree = just_enough(rng, ends, some_pairs(rng, ends), text)
        if tree is None:
            continue
        how = rng.randint(0, 3)
        programs = right_tables(tree, text) if how == 0 else near_misses(rng, tree, text) if how == 1 else None
        if programs is None or not all(isinstance(program, Table) for program in programs):
            programs = [clean(some_table(rng, tree, end)) for end in range(1, ends + 1)]
        programs = [clean(program) for program in programs]
        return tree, text, programs, some_run(rng, World(tree, text, programs), text, 25)


def clean(table):
    """The same without sends of negative kinds, which cannot be written."""
    rows = {}
    for key, (behind, sends, says) in table.rows().items():
        rows[key] = (behind, tuple(send for send in sends if min(send) >= 0), says)
    return Table(table.first(), rows)


class RecordCase(Case):
    def bad(self, at, lines):
        for call in [read_record, untruth]:
            with self.assertRaises(BadLine) as caught:
                call(lines)
            self.same(caught.exception.at, at)
        self.same(is_true(lines), False)

    def fine_up_to(self, lines, line):
        """A line that may stand behind the others, though the record is not ended."""
        self.bad(len(lines) + 1, lines + [line])

    def bad_behind(self, lines, line):
        self.bad(len(lines), lines + [line])
        self.bad(len(lines), lines + [line, "over", None])


class Written(RecordCase):
    def test_against_own_words(self):
        rng = random.Random(221)
        ends = {}
        for _ in range(120):
            tree, text, programs, run = some_lot(rng)
            expected = written(tree, text, programs, run)
            found = record_of(tree=tree, text=text, programs=tuple(programs), run=tuple(run))
            self.same(found, expected)
            ends[found[-1]] = True
            self.reads(found, tree, text, programs, run)
        self.assertTrue({"fault early", "fault never", "open", "over"} <= set(ends))

    def test_a_wrong_say(self):
        """Of two wrong says the first one is the last that is written."""
        wrong = Table(5, {(5, ("comes", 1, 1)): (6, (), (("decides", 1), ("decides", 0)))})
        run = [("hand", 0), ("give", 1, 2, 1)]
        lines = record_of(TREE, TEXT, [TELLER, wrong], run)
        self.same(lines, written(TREE, TEXT, [TELLER, wrong], run))
        self.same(lines[-3:], ["hand 0 : nothing", "give 1 2 1 : 2 decides 1", "fault wrong"])
        self.reads(lines, TREE, TEXT, [TELLER, wrong], run)

    def reads(self, lines, tree, text, programs, run):
        """Read, and written again."""
        found = read_record(lines)
        self.same([type(part) for part in found], [tuple if part is text else type(part) for part in found])
        self.same([type(found), type(found[2]), type(found[3])], [tuple, list, list])
        self.assertTrue(found[0] == tree)
        self.same([found[1], found[3]], [text, run])
        self.assertTrue(all(one == other for one, other in zip(found[2], least_tables(programs))))
        self.same(len(found[2]), tree.ends)
        self.same(record_of(*found), lines)
        self.same([untruth(lines), untruth(tuple(lines)), is_true(lines), is_true(tuple(lines))], [None, None, True, True])

    def test_long_numbers(self):
        value, big = 10 ** 48, 10 ** 12
        text = (("deal", 1, (2, 3, 4, 5), (big,) * 4, 0, False),)
        tree = Tree(5, [(1, 2, ("wires", 1)), (1, 3, ("wires", 1)), (1, 4, ("wires", 1)), (1, 5, ("wires", 1))])
        rows = {(0, ("handed", value - 1)): (0, ((big, big),), (("decides", value), ("answers", (big, 0)))), (0, ("handed", value)): (0, ((2, 1),), ())}
        rows[0, ("comes", big, big)] = (0, ((0, 0),), ())
        programs = [Table(0, rows)] + [Table(0, {})] * 4
        lines = record_of(tree, text, programs, [("hand", value - 1)])
        self.same(lines, written(tree, text, programs, [("hand", value - 1)]))
        self.same(lines[-1], "fault early")
        self.reads(lines, tree, text, programs, [("hand", value - 1)])

    def test_standings_of_all_sorts(self):
        standings = ["", "a b", (), ("x", (1, ())), -5, 10 ** 60]
        rows = {(one, ("handed", at)): (standings[at - 1], ((2, at),), ()) for at, one in enumerate(standings)}
        rows.update({("", ("handed", at)): (other, (), (("done",),)) for at, other in enumerate(standings[1:], 10)})
        lines = record_of(TREE, TEXT, [Table("", rows), Table((), {})], [])
        self.same(lines, written(TREE, TEXT, [Table("", rows), Table((), {})], []))
        self.same(len(lines), 7 + len(rows))

    def test_wrong_texts(self):
        for wrong in NO_LISTS + [(), [], TEXT * 2, list(TEXT)]:
            self.refused(InvalidText, wrong, record_of, TREE, wrong, None, [None])

    def test_wrong_programs(self):
        for wrong in NO_LISTS + [[], [TELLER], (TELLER, HEARER, HEARER), [TELLER, None], [TELLER, Folded(HEARER, [])], [made(TREE, TEXT, papers(TREE, TEXT))[0], HEARER]]:
            self.refused(InvalidPrograms, wrong, record_of, TREE, TEXT, wrong, [None])
        spoilt = [
            {(0, ("handed", -1)): (0, (), ())}, {(0, ("handed", 10 ** 48 + 1)): (0, (), ())}, {(0, ("comes", -1, 1)): (0, (), ())}, {(0, ("comes", 1, 10 ** 12 + 1)): (0, (), ())},
            {(0, ("comes", 10 ** 12 + 1, 1)): (0, (), ())}, {(0, ("comes", 1, -1)): (0, (), ())}, {(0, ("handed", 1)): (0, ((1, 1), (-1, 1)), ())},
            {(0, ("handed", 1)): (0, ((1, 10 ** 12 + 1),), ())}, {(0, ("handed", 1)): (0, (), (("done",), ("decides", -1)))}, {(0, ("handed", 1)): (0, (), (("decides", 10 ** 48 + 1),))},
            {(0, ("handed", 1)): (0, (), (("answers", (0, 10 ** 12 + 1)),))}, {(0, ("handed", 1)): (0, (), (("answers", (-1,)),))},
            {("far", ("handed", -1)): ("far", (), ())}, {("far", ("handed", 1)): (0, ((-1, 1),), ())},
        ]
        for rows in spoilt:
            for wrong in [[Table(0, rows), HEARER], [TELLER, Table(0, rows)]]:
                self.refused(InvalidPrograms, wrong, record_of, TREE, TEXT, wrong, [None])
        fine = Table(0, {(-7, ("handed", 10 ** 48)): (-8, ((10 ** 12, 0),), (("decides", 10 ** 48), ("answers", (10 ** 12,))))})
        self.same(record_of(TREE, TEXT, [fine, fine], []), ["ends 2", "line 1 2 letters 2 0", "tell 1 to 2 of 2 then nobody", "program 1", "program 2", "run", "open"])

    def test_wrong_entries(self):
        programs = [TELLER, HEARER]
        for wrong in [
            ("hand", 2), ("hand", True), ("hand",), ("hand", 1, 1), ["hand", 1], None, "hand 1", (), ("give", 1, 2, 1), ("give", 1, 3, 1), ("answer", 2, 0), ("ask", 1), 7,
        ]:
            for ahead in [0, 1, 2]:
                run = [("hand", 1), ("give", 1, 2, 2)][:ahead] + [wrong, None]
                if wrong == ("give", 1, 2, 1) and ahead:
                    continue
                self.refused_with(BadEntry, {"at": ahead}, record_of, TREE, TEXT, programs, run)
        self.refused_with(BadEntry, {"at": 2}, record_of, TREE, TEXT, [TELLER, TELLER], [("hand", 0), ("give", 1, 2, 1), ("give", 1, 2, 1)])
        self.same(record_of(TREE, TEXT, programs, RUN + [("give", 1, 2, 1)] * 597)[-2:], ["give 1 2 1 : nothing", "over"])


class Read(RecordCase):
    def test_each_beginning(self):
        for lines in [LINES, LONG]:
            for many in range(len(lines)):
                self.bad(many, lines[:many])
                self.bad_behind(lines[:many], "")
                self.bad_behind(lines[:many], None)
            self.assertIsNotNone(read_record(lines))
            for more in ["over", "open", "hand 0 : nothing", "", lines[-1]]:
                self.bad(len(lines), lines + [more])

    def test_what_a_long_one_holds(self):
        tree, text, programs, run = read_record(lines=LONG)
        self.assertTrue(tree == Tree(3, [(1, 2, ("letters", 2, 8)), (2, 3, ("wires", 4))]))
        self.same(text, (("ask", 1, (2, 3), 2, (2, 3), True), ("deal", 1, (2, 3), (2, 2), 3, False), ("tell", 3, (1,), 1, 0, True)))
        self.same(programs[0].rows(), {
            (0, ("comes", 2, 1)): (1, ((3, 1), (3, 2)), (("decides", 0),)), (0, ("handed", 4)): (2, (), ()),
            (1, ("handed", 0)): (1, (), (("done",), ("answers", (0, 2)), ("decides", "end"))),
        })
        self.same([programs[1].rows(), programs[2].rows()], [{}, {(399, ("comes", 0, 0)): (400, ((0, 0),), ())}])
        self.same([type(program) for program in programs] + [program.first() for program in programs], [Table] * 3 + [0] * 3)
        self.same(run, [("hand", 1), ("give", 1, 2, 1), ("answer", 3, 0)])

    def test_near_misses(self):
        for lines in [LINES, LONG]:
            for at, line in enumerate(lines):
                words = line.split(" ")
                misses = [" " + line, line + " ", line.upper(), line + ",", line + " x", line + " : ", line + "\n", line + " :", "x " + line, line.replace(" ", "  ", 1) + " "]
                misses += [" ".join(words[:here] + [""] + words[here:]) for here in range(len(words) + 1)]
                for here in range(len(words)):
                    misses += [" ".join(words[:here] + [word] + words[here + 1:]) for word in ["x", "-1", "01", "+2", "\u0661", FIFTY]]
                    # A say of several may be left out, or said again.
                    if not words[here].isdigit() and not words[here].endswith(","):
                        misses += [" ".join(words[:here] + words[here + 1:]), " ".join(words[:here] + [words[here]] + words[here:])]
                for miss in misses:
                    self.bad_behind(lines[:at], miss)
                for wrong in NO_INTEGERS:
                    if not isinstance(wrong, str):
                        self.bad_behind(lines[:at], wrong)
                self.bad_behind(lines[:at], [line])

    def test_words_out_of_place(self):
        """Each line stands in its own place alone."""
        kinds = {
            0: ["ends"], 1: ["line"], 2: ["tell"], 3: ["program", "tell"], 4: ["at", "program"], 5: ["at", "program"], 6: ["at", "program"],
            7: ["at", "run"], 10: ["at", "run"], 11: ["hand", "give", "over"], 14: ["hand", "give", "over"], 15: [],
        }
        for at, words in kinds.items():
            for line in sorted(set(LINES)) + ["ends 2", "keep", "start", "calm", "show", "open", "fault early", "program 3", "program 0", "answer 2 0 : nothing"]:
                if line.split(" ")[0] not in words and line not in ("open", "fault early", "answer 2 0 : nothing"):
                    self.bad_behind(LINES[:at], line)
                if line in ("keep", "start", "calm", "show", "program 3", "program 0"):
                    self.bad_behind(LINES[:at], line)
                if line in ("open", "fault early", "answer 2 0 : nothing") and at not in (11, 14):
                    self.bad_behind(LINES[:at], line)

    def test_ends_and_lines(self):
        for number in [0, 1, 6, 7, 12]:
            self.bad_behind([], f"ends {number}")
        for number in range(2, 6):
            self.fine_up_to([], f"ends {number}")
        four = ["ends 4"]
        for line in ["line 1 5 wires 1", "line 1 2 wires 11", "line 1 2 letters 9 0", "line 1 2 letters 0 9", "line 2 1 wires 1", "line 1 1 wires 1", "line 0 1 wires 1"]:
            self.bad_behind(four, line)
        lines = four + ["line 2 4 wires 10", "line 1 4 letters 8 0"]
        self.fine_up_to(lines[:-1], lines[-1])
        for line in ["line 1 2 wires 1", "line 2 4 wires 10", "line 1 4 wires 1", "tell 1 to 2 of 2 then 2", "program 1"]:
            self.bad_behind(lines, line)
        for line in ["line 1 3 wires 1", "line 2 3 wires 1", "line 3 4 wires 0"]:
            self.fine_up_to(lines, line)
            self.bad_behind(lines + [line], "line 1 2 wires 1")
        # Two pairs of ends that do not hang together yet.
        self.fine_up_to(four + ["line 1 2 wires 1"], "line 3 4 wires 1")
        self.fine_up_to(four + ["line 1 2 wires 1", "line 3 4 wires 1"], "line 1 3 wires 1")

    def test_lines_of_a_tree_in_any_order(self):
        tree = Tree(4, [(1, 2, ("letters", 1, 2)), (2, 3, ("wires", 3)), (2, 4, ("letters", 4, 5))])
        rest = ["tell 1 to 2 of 1 then nobody", "program 1", "program 2", "program 3", "program 4", "run", "open"]
        lines = [line_of(*line) for line in tree.lines]
        for order in [lines, lines[::-1], lines[1:] + lines[:1]]:
            self.assertTrue(read_record(["ends 4"] + order + rest)[0] == tree)
            self.same(is_true(["ends 4"] + order + rest), True)

    def test_steps(self):
        head = ["ends 3", "line 1 2 wires 4", "line 2 3 wires 4"]
        for line in ["tell 1 to 4 of 2 then 2", "tell 1 to 1 of 2 then 2", "tell 1 to 2 of 0 then 2", "deal 1 to 2 of 2 2 then 2", "ask 1 to 2 3 of 2 answers 2", "tell 1 to 2 of 2 then 4"]:
            self.bad_behind(head, line)
        begun = head + ["tell 1 to 2 of 2 then 3"]
        self.bad_behind(begun, "tell 1 to 2 of 2 then 3")
        self.fine_up_to(begun, "tell 3 to 2 of 1000000000000 then nobody")
        self.bad_behind(begun, "tell 3 to 2 of 1000000000001 then nobody")
        self.bad_behind(begun + ["tell 3 to 2 of 1 then nobody"], "tell 3 to 2 of 1 then nobody")
        self.fine_up_to(begun + ["tell 3 to 2 of 1 then nobody"], "program 1")
        eight = head + ["tell 1 to 2 of 1 then 1"] * 8
        self.bad_behind(eight, "tell 1 to 2 of 1 then 1")
        self.fine_up_to(eight, "program 1")
        self.bad_behind(head, "program 1")

    def test_rows(self):
        head = LINES[:4]
        self.fine_up_to(head, "at 400 handed 0 goes 400")
        for line in ["at 401 handed 0 goes 0", "at 0 handed 0 goes 401", "at 0 handed 0 goes 0 sends", "at 0 handed 0 goes 0 says", "at 0 handed 0 goes 0 sends  says done",
                     "at 0 handed 0 goes 0 says done sends 1 1", "at 0 handed 0 goes 0 sends 1", "at 0 handed 0 goes 0 sends 1 1 1", "at 0 handed 0 goes 0 sends 1 1,1 1",
                     "at 0 handed 0 goes 0 sends 1 1, ", "at 0 handed 0 goes 0 says done, ", "at 0 handed 0 goes 0 says done,done", "at 0 handed 0 goes 0 says done 1",
                     "at 0 handed 0 goes 0 says decides", "at 0 handed 0 goes 0 says decides 1 2", "at 0 handed 0 goes 0 says answers", "at 0 handed 0 goes 0 says nothing",
                     "at 0 handed 0 goes 0 says answers end", "at 0 handed end goes 0", "at 0 comes 1 goes 0", "at 0 comes 1 1 1 goes 0", "at 0 handed 1 1 goes 0", "at 0 goes 0",
                     "at 0 0 handed 0 goes 0", "at 0 handed 0 goes 0 0", "at 0 handed 0 comes 1 1 goes 0", "handed 0 goes 0", "at 0 handed 0", "at 0 handed 0 goes 0 says 2 decides 0"]:
            self.bad_behind(head, line)
        for line in ["at 0 handed 0 goes 0", "at 7 comes 0 0 goes 0 sends 0 0, 0 0, 9 9 says done, done, decides end, answers 0, decides 7", "at 0 handed 0 goes 3 says answers 0 0 0 0 0 0"]:
            self.fine_up_to(head, line)

    def test_rows_ascend(self):
        order = ["at 0 comes 1 1", "at 0 comes 1 2", "at 0 comes 1 10", "at 0 comes 2 1", "at 0 comes 10 0", "at 0 handed 0", "at 0 handed 9", "at 0 handed 10", "at 1 comes 0 0",
                 "at 2 handed 0", "at 10 comes 0 0"]
        rows = [line + " goes 0" for line in order]
        for at in range(len(rows)):
            for other in range(len(rows)):
                lines = LINES[:4] + [rows[at]]
                if other > at:
                    self.fine_up_to(lines, rows[other])
                else:
                    self.bad_behind(lines, rows[other])
            self.bad_behind(LINES[:4] + [rows[at]], order[at] + " goes 1 says done")
            for other in range(at + 1):
                self.bad_behind(LINES[:4] + rows[:at + 1], rows[other])
        self.fine_up_to(LINES[:4] + rows, "program 2")
        self.fine_up_to(LINES[:4] + rows + ["program 2"], rows[0])

    def test_400_rows(self):
        rows = [f"at {at // 2} handed {at % 2} goes {at}" for at in range(400)]
        self.fine_up_to(LINES[:4] + rows[:399], rows[399])
        self.bad_behind(LINES[:4] + rows, "at 300 handed 0 goes 0")
        self.fine_up_to(LINES[:4] + rows, "program 2")
        lines = LINES[:4] + rows + ["program 2"] + rows + ["run", "open"]
        self.same([len(table.rows()) for table in read_record(lines)[2]], [400, 400])

    def test_digits(self):
        """Numbers of 13, 14, 49 and 50 digits where each may stand."""
        head, step = LINES[:4], ["ends 2", "line 1 2 letters 2 0"]
        run = LINES[:10] + ["run"]
        for lines, form, most in [
            (head, "at 0 handed {} goes 0", 49), (head, "at 0 comes {} 1 goes 0", 13), (head, "at 0 comes 1 {} goes 0", 13), (head, "at 0 handed 0 goes 0 sends {} 1", 13),
            (head, "at 0 handed 0 goes 0 sends 1 1, 1 {}", 13), (head, "at 0 handed 0 goes 0 says decides {}", 49), (head, "at 0 handed 0 goes 0 says answers 0 {}", 13),
            (run, "hand {} : nothing", 49), (run, "answer {} 0 : nothing", 13), (run, "answer 1 {} : nothing", 13), (run, "give {} 1 1 : nothing", 13),
            (run, "give 1 {} 1 : nothing", 13), (run, "give 1 1 {} : nothing", 13), (run, "hand 0 : {} done", 13), (run, "hand 0 : 1 decides {}", 49),
            (run, "hand 0 : 1 done, 2 answers {} 0", 13), (step, "tell 1 to 2 of {} then nobody", 13),
        ]:
            for word, digits in [(THIRTEEN, 13), (FOURTEEN, 14), (FORTY_NINE, 49), (FIFTY, 50)]:
                if digits <= most:
                    self.fine_up_to(lines, form.format(word))
                else:
                    self.bad_behind(lines, form.format(word))

    def test_entries(self):
        run = LINES[:10] + ["run"]
        for line in ["hand 9 : nothing", "answer 9 9 : 9 done", "give 9 9 9 : 9 answers 9, 9 decides end", "hand 0 : 1 done, 1 done, 1 done"]:
            self.fine_up_to(run, line)
        for line in ["hand 0", "hand 0 :", "hand 0 : ", "hand 0 nothing", "hand 0: nothing", "hand 0 : 1", "hand 0 : done", "hand 0 : 0 done", "hand 0 : nothing, 1 done",
                     "hand 0 : 1 done,2 done", "hand 0 : 1 done, ", "hand 0 : 1 decides", "hand 0 : 1 answers", "hand 0 : 1 says done", "give 0 1 1 : nothing", "give 1 1 0 : nothing",
                     "answer 0 0 : nothing", "hand 0 : nothing : nothing", "calm : 1", "show : open", "keep : yes", "calm : nothing",
                     "show : nothing", "keep : nothing", "start : nothing", "ends 2 : nothing", "line 1 2 wires 1 : nothing", "tell 1 to 2 of 2 then 1 : nothing", "fault", "fault none", "fault early wrong", "over 1", "Open", "none"]:
            self.bad_behind(run, line)
        for line in ["over", "open", "fault early", "fault wrong", "fault never"]:
            self.assertIsNotNone(read_record(run + [line]))
            self.assertIsNotNone(read_record(tuple(run + [line])))

    def test_many_items(self):
        lines = LINES[:-1] + ["give 1 2 1 : nothing"] * (3000 - len(LINES)) + ["over"]
        begun = time.perf_counter()
        self.same([len(lines), untruth(lines), is_true(lines)], [3000, None, True])
        self.same(len(read_record(lines)[3]), 3000 - len(LINES) + 3)
        self.bad(3000, lines[:-1] + ["give 1 2 1 : nothing"])
        self.assertLess(time.perf_counter() - begun, 10)
        for more in [lines + ["over"], [None] * 3001, lines * 2]:
            for call in [read_record, untruth]:
                self.too_many(len(more), call, more)
            self.same(is_true(more), False)

    def test_new_each_time(self):
        found = read_record(LINES)
        found[2].clear()
        found[3].clear()
        record_of(TREE, TEXT, [TELLER, HEARER], RUN).clear()
        self.same([len(read_record(LINES)[2]), len(read_record(LINES)[3]), record_of(TREE, TEXT, [TELLER, HEARER], RUN)], [2, 3, LINES])


class Truth(RecordCase):
    def untrue(self, at, lines):
        self.assertIsNotNone(read_record(lines))
        self.same([untruth(lines=lines), untruth(tuple(lines)), is_true(value=lines)], [at, at, False])

    def test_each_line_that_may_be_untrue(self):
        rng = random.Random(223)
        for _ in range(30):
            tree, text, programs, run = some_lot(rng)
            lines = record_of(tree, text, programs, run)
            first = len(lines) - 1 - len(run)
            for at in range(first, len(lines) - 1):
                head, _, told = lines[at].partition(" : ")
                for other in ["nothing", "1 done", "2 decides 0", told + ", 1 done", told.replace("0", "1")]:
                    if other != told and not other.startswith("nothing,"):
                        self.untrue(at, lines[:at] + [head + " : " + other] + lines[at + 1:])
                for other in ["hand 999", "give 1 1 1", "give 9 8 7", "answer 5 0", "answer 1 99"]:
                    self.untrue(at, lines[:at] + [other + " : nothing"] + lines[at:])
            for other in ["over", "open", "fault early", "fault wrong", "fault never"]:
                if other != lines[-1]:
                    self.untrue(len(lines) - 1, lines[:-1] + [other])

    def test_an_entry_behind_a_failing_one(self):
        lines = record_of(TREE, TEXT, [TELLER, TELLER], [("hand", 0), ("give", 1, 2, 1)])
        self.untrue(len(lines) - 1, lines[:-1] + ["give 1 2 1 : nothing", "fault never"])

    def test_the_first_one_counts(self):
        lines = LINES[:11] + ["hand 1 : 1 done", "give 1 2 2 : 1 done", "fault early"]
        self.untrue(11, lines)
        self.untrue(11, LINES[:11] + ["hand 2 : nothing", "hand 3 : nothing", "over"])

    def test_rows_that_are_no_least_ones(self):
        """What stands in a table that does nothing is no untruth."""
        lines = LINES[:4] + ["at 0 handed 0 goes 5 sends 2 1", "at 0 handed 1 goes 0 sends 2 1, 2 2", "at 6 handed 0 goes 6"] + LINES[6:]
        self.same([untruth(lines), is_true(lines)], [None, True])

    def test_any_value(self):
        for value in NO_LISTS + NO_INTEGERS + [[], (), [LINES], LINES[:-1], [None] * 20, list("over"), {"a": LINES}, TREE, [[[[[]]]]], LINES[::-1]]:
            self.same(is_true(value), False)
        self.same([is_true(LINES), is_true(tuple(LINES))], [True, True])


if __name__ == "__main__":
    unittest.main()
