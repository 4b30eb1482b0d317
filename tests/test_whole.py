"""Points 7, 8 and 9 over the whole program: what may be asked in any order, changed later, and passed again."""

import importlib
import inspect
import random
import unittest

from tests.helper import Case
from tests.test_language import INTERFACE
from upforgood.bench import Bench
from upforgood.ends import made
from upforgood.errors import TalkError
from upforgood.exchange import Exchange
from upforgood.keeping import can_keep, papers
from upforgood.leasts import fewest_kinds
from upforgood.lines import Line
from upforgood.noes import is_no_paper, no_paper
from upforgood.programs import Folded, Table
from upforgood.records import record_of
from upforgood.servers import Service
from upforgood.sessions import Session
from upforgood.stars import Gather, Spread
from upforgood.trees import Tree
from upforgood.turnings import can_order, kept_order, row_of
from upforgood.worlds import World

TREE = Tree(3, [(1, 2, ("letters", 4, 3)), (2, 3, ("wires", 7))])
SMALL = Tree(2, [(1, 2, ("letters", 2, 1))])
TEXT = (("ask", 1, (2, 3), 2, (3, 2), False), ("tell", 1, (2, 3), 1, 0, True))
SHORT = (("tell", 1, (2,), 2, 2, False), ("tell", 2, (1,), 1, 0, False))
BARRED = (("tell", 1, (2,), 2, 2, False), ("tell", 2, (1,), 2, 0, False))
ROWS = {("a", ("handed", 0)): ("b", ((2, 1),), ()), ("b", ("comes", 2, 1)): ("c", (), (("done",),)), ("c", ("handed", 5)): ("d", (), ())}
TABLES = [
    Table(0, {(0, ("handed", 0)): (0, ((2, 1),), ()), (0, ("handed", 1)): (0, ((2, 2),), ()), (0, ("comes", 2, 1)): (0, (), (("decides", 0),))}),
    Table(0, {(0, ("comes", 1, 1)): (0, (), (("decides", 0), ("done",))), (0, ("comes", 1, 2)): (0, (), (("decides", 1), ("done",))), (0, ("handed", 0)): (0, ((1, 1),), ())}),
]
RUN = [("hand", 1), ("give", 1, 2, 2), ("hand", 0), ("give", 2, 1, 1)]
RECORD = record_of(SMALL, SHORT, TABLES, RUN)
PAPER = papers(TREE, TEXT)
PRICES = [(1, 2, 3), (None, 1, 0)]
# For each function of the interface some arguments: right ones, and now and then some by which it raises an error.
CALLS = {
    "numbers": {
        "factorial": [(5,), (-1,)], "choose": [(5, 2)], "arrangements": [([2, 1, 1],)], "even_parts": [(7, 3)], "most_arranged": [(4, 2, 1)],
    },
    "ranks": {
        "many_rounds": [(4, [1, 2])], "rounds_of": [(3, [2, 5, 7], [1, 1]), (6, [2, 5, 7], [1, 1])], "rank_of": [(((7,), (5,)), [2, 5, 7])], "many_raised": [(4, [1, 1])],
        "raised_of": [(7, [1, 2, 3, 4], [1, 1])], "raised_rank": [(((2,), (3,)), [1, 2, 3, 4])], "answers_of": [(((1,), (3,)), [1, 2, 3, 4])],
    },
    "lines": {"is_spec": [(["wires", 2],)]},
    "trees": {"path": [(TREE, 3, 1)], "beyond": [(TREE, 1, 2), (TREE, 1, 3)]},
    "texts": {"is_text": [(TREE, TEXT), (TREE, [TEXT])], "values_of": [(TEXT[0],)], "due_of": [(TEXT[1], 1), (TEXT[1], 2)], "own_row": [(TREE, TEXT, 1, 2), (TREE, list(TEXT), 1, 2)]},
    "rows": {
        "can_tell": [([6, 2], 3, 2)], "fits": [([3, 1, 2], 3, 1, ((1,), (1,), (1,))), ([3], 3, 1, [[1]])], "plan": [([3, 1, 2], 4, 2)], "left_by": [(((1,), (1,)), 3, 1)],
        "stairs": [([2, 2], 3), ([[]], 3)], "stairs_hold": [([2], 1, ((None, None), [0, 0]))],
    },
    "wires": {
        "can_raise": [([3, 2, 1], 3)], "raise_fits": [([6, 1], 4, ((2,), (1,)))], "raise_plan": [([2, 6, 1], 9)], "leasts": [([2, 6, 5],)], "most_raised": [(7,)],
    },
    "keeping": {
        "can_keep": [(TREE, TEXT)], "papers": [(TREE, TEXT), (SMALL, BARRED)], "is_paper": [(TREE, TEXT, PAPER)], "barred": [(SMALL, BARRED)],
        "uses": [(TREE, TEXT, PAPER, 0), (TREE, TEXT, [], 0)],
    },
    "ends": {"made": [(TREE, TEXT, PAPER), (TREE, TEXT, PAPER[1:])]},
    "worlds": {"fault_of": [(SMALL, SHORT, TABLES, RUN), (SMALL, SHORT, TABLES, RUN + [["hand", 1]]), (SMALL, SHORT, TABLES[:1], RUN)]},
    "judging": {"judged": [(SMALL, SHORT, TABLES, 100), (SMALL, SHORT, TABLES[::-1], 100)], "tabled": [(SMALL, SHORT, TABLES, 100)]},
    "breaking": {"broken": [(SMALL, BARRED, TABLES), (SMALL, SHORT, TABLES)]},
    "leasts": {
        "least_pairs": [([4, 4, 4], 6)], "least_wires": [(3, [(2, 3), (1, 2)], TEXT), (3, [(2, 3)], TEXT)], "can_tell_within": [([20], 6, 2, 0, 3)], "fewest_answers": [([720], 6, 5)],
        "fewest_kinds": [([20], 6, 2)],
    },
    "service": {"can_serve": [(2, 2, 3, 3)], "can_serve_raised": [(2, 1, 2)], "most_served": [(TREE, 2, 8)]},
    "exchange": {"both": [(5, 2), (1, 2)], "both_known": [(6, 3)]},
    "sessions": {"play": [(["ends 2", "line 1 2 letters 3 1", "tell 1 to 2 of 3 then 2", "keep", "start", "hand 2", "calm", "show"],), (["ends 2", "ends 7"],)]},
    "noes": {
        "no_paper": [(SMALL, BARRED), (TREE, TEXT)], "is_no_paper": [(SMALL, BARRED, (1, 2, [[None, None, 2], [None, None, 0], [0, 0, 0]]))], "told_until": [([6, 2], 3, 2)],
        "raised_until": [([3, 3], 3), ([[]], 3)],
    },
    "costs": {
        "allowed": [(2, [(1, 2)], [SHORT, BARRED], 1, 2), (2, [(1, 2)], [SHORT, []], 1, 2)], "cheapest": [(3, [(2, 3), (1, 2)], PRICES, [TEXT]), (3, [(2, 3)], PRICES, [TEXT])],
        "cost_of": [(TREE, PRICES), (TREE, PRICES[1:])],
    },
    "merging": {"least_table": [(Table("a", ROWS),)], "parting": [(Table("a", ROWS), Table("b", ROWS))], "least_tables": [(TABLES,), ([TABLES],)]},
    "turnings": {
        "row_of": [([(1, 3), (1, 2), (0, 4)],), ([[]],)], "can_order": [(("letters", 3, 2), [(1, 2), (0, 6)])], "orders": [(("wires", 6), [(0, 2), (1, 2), (0, 2)]), (("wires", 6), [()])],
        "kept_order": [(SMALL, [(1, (2,), 1), (2, (1,), 1)]), (SMALL, [[]])], "room": [([2, 1], 2, 1)], "room_raised": [([2, 3], 4)], "room_of": [(TREE, TEXT, 0), (TREE, TEXT, [])],
    },
    "records": {
        "record_of": [(SMALL, SHORT, TABLES, RUN), (SMALL, SHORT, TABLES, RUN + RUN)], "read_record": [(RECORD,), (RECORD[1:],)], "untruth": [(RECORD[:-1] + ["open"],)],
        "is_true": [(RECORD,), ([RECORD],)],
    },
    "stars": {"gathered": [([3, 2], 1), ([], 1)], "spread": [(3, [2, 1])]},
}


def objects():
    """Each of the classes whose objects change, with deeds, and with what may be asked at any time."""
    world = World(TREE, TEXT, made(TREE, TEXT, PAPER))
    yield world, [("hand", 1), ("calm",), ("answer", 3, 1), ("calm",), ("answer", 2, 2), ("calm",), ("hand", 1), ("give", 1, 2, 1)], [
        ("turn",), ("asked",), ("under_way",), ("is_over",), ("fault",), ("decided", 2), ("done",), ("run",), ("decided", 9),
    ]
    line = Line(("letters", 3, 2))
    yield line, [("send", 0, 2), ("send", 1, 1), ("come", 1, 2), ("send", 0, 1)], [("sent", 0), ("come_to", 1), ("under_way", 1), ("unsent", 0), ("left",), ("kinds", 1), ("sent", 2)]
    yield Service(TREE, 2, 1), [("hand", 2, 1), ("calm",)], [("free",), ("under_way",), ("decided", 1), ("count",), ("left", 2, 3), ("left", 1, 3)]
    yield Exchange(5, 3, True), [("hand", 1, 2), ("hand", 0, 7), ("give", 0, 1), ("give", 0, 2), ("calm",)], [
        ("numbers",), ("under_way",), ("decided", 0), ("decided", 1), ("knows", 0), ("knows", 1), ("knows", 2),
    ]
    yield Gather([3, 2], 1), [("hand", 2, 1), ("hand", 1, 5), ("calm",)], [("under_way",), ("decided",)]
    yield Spread(3, [2, 1]), [("hand", 4), ("calm",)], [("under_way",), ("decided",)]
    session = [("do", told) for told in ["ends 2", "line 1 2 letters 3 1", "tell 1 to 2 of 3 then 2", "start", "hand 2", "calm", "show"]]
    yield Session(), session + [("undo",), ("undo",), ("redo",)], [("lines",)]
    yield Bench(TREE), [("put", "a", TEXT), ("put", "b", SHORT), ("change", 1, 2, ("wires", 5)), ("undo",), ("drop", "b"), ("undo",), ("redo",)], [
        ("names",), ("text", "a"), ("barred", "a"), ("verdicts",), ("spare", 1, 2), ("needs", 1, 2), ("compared", "a", "a"), ("deeds",), ("text", "zz"),
    ]


def frozen(value):
    """All that a value holds, to see whether anything in it has changed."""
    if isinstance(value, (list, tuple)):
        return (type(value).__name__, tuple(frozen(part) for part in value))
    if isinstance(value, dict):
        return ("dict", tuple((frozen(key), frozen(value[key])) for key in value))
    if type(value).__module__.startswith("upforgood"):
        return (type(value).__name__, frozen(vars(value)))
    return (type(value).__name__, repr(value))


def told(call, arguments):
    """What a call returns or raises."""
    try:
        return call(*arguments)
    except TalkError as error:
        return error


def containers(value):
    """All lists and dicts in a value, one for each place."""
    found = [value] if isinstance(value, (list, dict)) else []
    if isinstance(value, (list, tuple)):
        parts = list(value)
    elif isinstance(value, dict):
        parts = list(value.values())
    else:
        parts = []
    for part in parts:
        found += containers(part)
    return found


def spoil(value):
    """Change whatever can be changed in what was returned."""
    for part in containers(value)[::-1]:
        if isinstance(part, list):
            part.append("spoilt")
            part.reverse()
        else:
            part["spoilt"] = 1


def all_calls():
    found = []
    for module, calls in CALLS.items():
        for name, lots in calls.items():
            for arguments in lots:
                found.append((module, name, getattr(importlib.import_module("upforgood." + module), name), arguments))
    return found


class Functions(Case):
    def test_all_of_them_are_called(self):
        for module, listed in INTERFACE.items():
            functions = [name for name, parameters in listed.items() if isinstance(parameters, str)]
            self.assertEqual(sorted(functions), sorted(CALLS.get(module, {})), module)

    def test_asked_again_and_in_another_order(self):
        calls = all_calls()
        before = frozen(CALLS)
        expected = [frozen(told(call, arguments)) for _, _, call, arguments in calls]
        self.assertEqual(frozen(CALLS), before)
        rng = random.Random(8)
        for _ in range(3):
            order = list(range(len(calls)))
            rng.shuffle(order)
            for at in order:
                _, name, call, arguments = calls[at]
                self.assertEqual(frozen(told(call, arguments)), expected[at], name)
        self.assertEqual(frozen(CALLS), before)

    def test_by_name(self):
        for _, name, call, arguments in all_calls():
            parameters = list(inspect.signature(call).parameters)
            named = dict(zip(parameters, arguments))
            self.assertEqual(frozen(told(lambda: call(**named), ())), frozen(told(call, arguments)), name)

    def test_what_is_returned_is_new_and_may_be_changed(self):
        for _, name, call, arguments in all_calls():
            before = frozen(arguments)
            first = told(call, arguments)
            if isinstance(first, TalkError):
                continue
            places = containers(first)
            self.assertEqual(len({id(part) for part in places}), len(places), name)
            given = {id(part) for part in containers(arguments)}
            self.assertFalse(given & {id(part) for part in places}, name)
            expected = frozen(first)
            spoil(first)
            self.assertEqual(frozen(told(call, arguments)), expected, name)
            self.assertEqual(frozen(arguments), before, name)

    def test_errors_have_the_very_arguments(self):
        for _, name, call, arguments in all_calls():
            error = told(call, arguments)
            if isinstance(error, TalkError) and "given" in vars(error):
                self.assertTrue(any(error.given is argument for argument in arguments), name)

    def test_tuples_for_lists(self):
        """Where a list is expected, a tuple may be passed."""
        for module, name, call, arguments in all_calls():
            for at, argument in enumerate(arguments):
                result = told(call, arguments)
                if isinstance(argument, list) and not isinstance(result, TalkError) and name not in ("is_spec", "is_text", "fits"):
                    passed = arguments[:at] + (tuple(argument),) + arguments[at + 1:]
                    self.assertEqual(frozen(told(call, passed)), frozen(result), (module, name))

    def test_programs_stay_as_they_are(self):
        """Tables, folded and made programs do the same behind all that they were passed to."""
        programs = [TABLES[0], Folded(TABLES[1], [(1, 1)])]
        before = frozen(programs)
        for _, _, call, arguments in all_calls():
            if any(argument is TABLES for argument in arguments):
                told(call, [programs if argument is TABLES else argument for argument in arguments])
        self.assertEqual(frozen(programs), before)


class Objects(Case):
    def test_what_is_told_may_be_changed_and_asked_in_any_order(self):
        rng = random.Random(9)
        for (thing, deeds, questions), (twin, _, _) in zip(objects(), objects()):
            for deed in deeds:
                for question in rng.sample(questions, len(questions)):
                    answer = told(getattr(thing, question[0]), question[1:])
                    if not isinstance(answer, TalkError):
                        places = containers(answer)
                        self.assertEqual(len({id(part) for part in places}), len(places))
                        spoil(answer)
                expected = frozen(told(getattr(twin, deed[0]), deed[1:]))
                answer = told(getattr(thing, deed[0]), deed[1:])
                self.assertEqual(frozen(answer), expected)
                spoil(answer)
                for question in questions:
                    self.assertEqual(frozen(told(getattr(thing, question[0]), question[1:])), frozen(told(getattr(twin, question[0]), question[1:])), question)

    def test_a_refused_call_changes_nothing(self):
        wrong = [
            ("hand", None), ("hand", 0, None), ("hand", 1, -1), ("give", 1, 2, 99), ("give", 9, 9, 9), ("give", 0, 99), ("answer", 1, 0), ("send", 0, 99), ("come", 0, 99), ("do", "x"),
            ("do", "ends 9"), ("put", "A", TEXT), ("put", "a", None), ("drop", "q"), ("change", 1, 3, None), ("change", 1, 2, None),
        ]
        for (thing, deeds, questions), (twin, _, _) in zip(objects(), objects()):
            for deed in deeds:
                for refused in wrong:
                    method = getattr(thing, refused[0], None)
                    if method is None or len(inspect.signature(method).parameters) != len(refused) - 1:
                        continue
                    self.assertIsInstance(told(method, refused[1:]), TalkError, refused)
                self.assertEqual(frozen(told(getattr(thing, deed[0]), deed[1:])), frozen(told(getattr(twin, deed[0]), deed[1:])))
                for question in questions:
                    self.assertEqual(frozen(told(getattr(thing, question[0]), question[1:])), frozen(told(getattr(twin, question[0]), question[1:])), question)

    def test_lists_that_were_passed_may_be_changed(self):
        lines = [(1, 2, ("letters", 4, 3)), (2, 3, ("wires", 7))]
        tree = Tree(3, lines)
        programs = list(made(tree, TEXT, PAPER))
        kinds, answers = [3, 2], [2, 1]
        rows = dict(ROWS)
        folds = [(2, 1)]
        table, world, gather, star = Table("a", rows), World(tree, TEXT, programs), Gather(kinds, 1), Spread(3, answers)
        folded = Folded(table, folds)
        for passed in [lines, programs, kinds, answers, rows, folds]:
            passed.clear()
        self.assertTrue(tree == TREE and table == Table("a", ROWS))
        self.same(folded.step("a", ("handed", 0)), ("b", ((2, 1),), ()))
        self.same([world.hand(0), len(world.calm()) > 0, gather.hand(2, 1), star.hand(5), len(star.calm()) > 0], [[], True, [], [], True])

    def test_objects_of_other_classes_are_not_equal(self):
        things = [thing for thing, _, _ in objects()] + [TREE, TABLES[0], Folded(TABLES[0], []), made(TREE, TEXT, PAPER)[0], None, 0, "", (), [], {}, TREE.lines]
        for at, one in enumerate(things):
            for other in things[at + 1:]:
                self.assertFalse(one == other)
                self.assertTrue(one != other)


class Statements(Case):
    """Point 7, where several parts of the package tell of the same."""

    def test_papers_of_a_yes_and_of_a_no(self):
        for tree, text in [(TREE, TEXT), (SMALL, SHORT), (SMALL, BARRED), (TREE, BARRED)]:
            paper, no = papers(tree, text), no_paper(tree, text)
            self.same([paper is None, no is None], [not can_keep(tree, text), can_keep(tree, text)])
            self.same(is_no_paper(tree, text, no), no is not None)

    def test_the_order_in_which_tells_are_kept(self):
        """Two ends: an order of tells is kept just where an order of messages can be told."""
        rng = random.Random(7)
        for _ in range(40):
            messages = [(rng.randint(0, 1), rng.choice([1, 2, 3])) for _ in range(rng.randint(1, 4))]
            spec = rng.choice([("letters", rng.randint(0, 4), rng.randint(0, 4)), ("wires", rng.randint(0, 8))])
            tree = Tree(2, [(1, 2, spec)])
            tells = [(side + 1, (2 - side,), number) for side, number in messages]
            found = kept_order(tree, tells)
            if found is not None:
                order = [(step[1] - 1, step[3]) for step in found]
                self.assertEqual(sorted(order), sorted(messages))
                self.assertTrue(can_order(spec, order))
                if spec[0] == "letters":
                    side, row = row_of(order)
                    self.assertIsNotNone(fewest_kinds(row, spec[1 + side], spec[2 - side]))


if __name__ == "__main__":
    unittest.main()
