"""Runs of texts with programs: points 6 and 111 to 114."""

from upforgood.checks import is_between, is_integer, is_list
from upforgood.ends import Made
from upforgood.errors import (
    BadEntry, Failed, InvalidNumber, InvalidPrograms, InvalidValue, NoTurn, NotAsked, TalkError,
)
from upforgood.nets import Net
from upforgood.parts import answer_of, is_end
from upforgood.programs import Folded, Table
from upforgood.texts import check_text, due_of, goes_on, is_value
from upforgood.trees import check_end

EARLY = "early"
WRONG = "wrong"
NEVER = "never"


class World:
    """A run of a text with programs, and where it has led to."""

    def __init__(self, tree, text, programs):
        check_text(tree, text)
        check_programs(tree, programs)
        self._tree = tree
        self._text = text
        self._programs = list(programs)
        self._standings = [program.first() for program in programs]
        self._net = Net(tree)
        self._values = []
        self._answered = []
        self._done = 0
        self._decided = [[] for _ in programs]
        self._said = [[] for _ in programs]
        self._fault = None
        self._run = []

    def turn(self):
        if self._fault is not None or self._is_open() or self._done == len(self._text):
            return None
        return self._done

    def asked(self):
        if self._fault is not None or not self._is_open() or self._is_ended() or self._step()[0] != "ask":
            return []
        answers = self._answered[-1]
        return [end for end in self._step()[2] if self._has_decided(end) and end not in answers]

    def under_way(self):
        return self._net.under_way()

    def is_over(self):
        if self._fault is not None:
            return False
        if self._done == len(self._text):
            return True
        if not self._is_open() or not self._have_all_decided():
            return False
        return self._is_ended() or goes_on(self._step()) == 0

    def fault(self):
        return self._fault

    def hand(self, value):
        self._check_not_failed()
        if self.turn() is None:
            raise NoTurn()
        step = self._text[self._done]
        if not is_value(step, value):
            raise InvalidValue(value)
        self._values.append(value)
        self._answered.append({})
        return self._enter(("hand", value), step[1], ("handed", value))

    def answer(self, end, number):
        self._check_not_failed()
        if not is_integer(end) or end not in self.asked():
            raise NotAsked(end)
        if not is_between(number, 0, answer_of(self._step(), end) - 1):
            raise InvalidNumber(number)
        self._answered[-1][end] = number
        return self._enter(("answer", end, number), end, ("handed", number))

    def give(self, u, w, kind):
        self._check_not_failed()
        if not self._net.give(u, w, kind):
            self._run.append(("give", u, w, kind))
            return []
        return self._enter(("give", u, w, kind), w, ("comes", u, kind))

    def decided(self, end):
        check_end(self._tree, end)
        return list(self._decided[end - 1])

    def done(self):
        return self._done

    def line(self, u, w):
        return self._net.line(u, w)

    def run(self):
        return list(self._run)

    def copy(self):
        world = World(self._tree, self._text, self._programs)
        world._standings = list(self._standings)
        world._net = self._net.copy()
        world._values = list(self._values)
        world._answered = [dict(answers) for answers in self._answered]
        world._done = self._done
        world._decided = [list(decided) for decided in self._decided]
        world._said = [list(said) for said in self._said]
        world._fault = self._fault
        world._run = list(self._run)
        return world

    def calm(self):
        made = []
        under_way = self.under_way()
        while self._fault is None and under_way != []:
            u, w, kind = under_way[0]
            self.give(u, w, kind)
            made.append(("give", u, w, kind))
            under_way = self.under_way()
        return made

    def standing(self, end):
        return self._standings[end - 1]

    def situation(self):
        """What the run has led to, as a tuple that is equal for runs that agree in this."""
        answered = [tuple(sorted(answers.items())) for answers in self._answered]
        spoken = [tuple(said) for said in self._said]
        return tuple(self._standings) + (self._net.state(), tuple(self._values), tuple(answered), tuple(spoken))

    def _enter(self, entry, end, event):
        """Let the program of an end make its step, and tell what it said that counts."""
        self._run.append(entry)
        behind, sends, says = self._programs[end - 1].step(self._standings[end - 1], event)
        self._standings[end - 1] = behind
        for near, kind in sends:
            self._net.send(end, near, kind)
        counted = []
        for say in says:
            counted.append((end, say))
            self._fault = self._fault_by(end, say)
            if self._fault is not None:
                return counted
            self._said[end - 1].append(say)
        if self._is_stuck():
            self._fault = NEVER
        return counted

    def _fault_by(self, end, say):
        """The fault by which a say fails, or None if it is right, and counted."""
        if not self._is_open():
            return EARLY
        if say[0] == "decides":
            return self._fault_by_decides(end, say[1])
        if not self._may_go_on(end, say[0]):
            return EARLY
        if say[0] == "answers" and say[1] != self._due_answers():
            return WRONG
        self._done += 1
        return None

    def _fault_by_decides(self, end, due):
        if end not in self._step()[2] or self._has_decided(end):
            return EARLY
        expected = [told for hearer, told in due_of(self._step(), self._values[-1]) if hearer == end]
        if due != expected[0]:
            return WRONG
        self._decided[end - 1].append((len(self._values) - 1, due))
        return None

    def _may_go_on(self, end, word):
        """Whether an end may say now that the step in hand is done, or what was answered."""
        step = self._step()
        if goes_on(step) != end or self._is_ended() or (word == "answers") != (step[0] == "ask"):
            return False
        return self._have_all_decided() and (word == "done" or len(self._answered[-1]) == len(step[2]))

    def _due_answers(self):
        return tuple([self._answered[-1][hearer] for hearer in self._step()[2]])

    def _is_stuck(self):
        if self.is_over() or self.turn() is not None:
            return False
        return self.asked() == [] and self.under_way() == []

    def _is_open(self):
        """Whether a step was handed and nobody has said that it is done."""
        return self._done < len(self._values)

    def _step(self):
        """The step that was handed last."""
        return self._text[len(self._values) - 1]

    def _is_ended(self):
        step = self._step()
        return is_end(step, list(step[2]), self._values[-1])

    def _has_decided(self, end):
        return len(self._values) - 1 in [at for at, _ in self._decided[end - 1]]

    def _have_all_decided(self):
        return all([self._has_decided(hearer) for hearer in self._step()[2]])

    def _check_not_failed(self):
        if self._fault is not None:
            raise Failed(self._fault)


def fault_of(tree, text, programs, run):
    world = World(tree, text, programs)
    for at, entry in enumerate(run):
        if make_entry(world, entry) is None:
            raise BadEntry(at)
    return world.fault()


def make_entry(world, entry):
    """Make an entry in a world, and tell what is said; None, and nothing is changed, if that is not possible."""
    if not _is_entry(entry):
        return None
    try:
        return enter(world, entry)
    except TalkError:
        return None


def enter(world, entry):
    if entry[0] == "hand":
        return world.hand(entry[1])
    if entry[0] == "answer":
        return world.answer(entry[1], entry[2])
    return world.give(entry[1], entry[2], entry[3])


def check_programs(tree, programs):
    if not is_list(programs) or len(programs) != tree.ends:
        raise InvalidPrograms(programs)
    if not all([isinstance(program, (Table, Folded, Made)) for program in programs]):
        raise InvalidPrograms(programs)


def _is_entry(value):
    if not isinstance(value, tuple) or value == ():
        return False
    word = value[0]
    if word == "hand":
        return len(value) == 2
    return (word == "answer" and len(value) == 3) or (word == "give" and len(value) == 4)
