"""All runs of small lots of programs: points 121 to 123."""

from upforgood.checks import is_between
from upforgood.errors import InvalidMost, TooMany
from upforgood.parts import answer_of
from upforgood.programs import Table
from upforgood.texts import check_text, may_end, values_of
from upforgood.worlds import World, check_programs, make_entry

MOST_SITUATIONS = 1000
MOST_VALUES = 100


def judged(tree, text, programs, most):
    _check(tree, text, programs, most)
    search = Search(tree, text, programs, most)
    search.go_through()
    return search.failed


def tabled(tree, text, programs, most):
    _check(tree, text, programs, most)
    search = Search(tree, text, programs, most)
    search.go_through()
    # A table refuses more rows than it may have, with their number.
    return [Table(program.first(), rows) for program, rows in zip(programs, search.rows)]


class Search:
    """All situations of programs, those behind fewer entries first."""

    def __init__(self, tree, text, programs, most):
        self.text = text
        self.programs = list(programs)
        self.most = most
        self.worlds = [World(tree, text, programs)]
        self.met = {self.worlds[0].situation(): True}
        self.failed = None
        self.rows = [{} for _ in programs]

    def go_through(self):
        at = 0
        while at < len(self.worlds):
            world = self.worlds[at]
            for entry in self._entries(world):
                self._try(world.copy(), entry)
            at += 1

    def _try(self, world, entry):
        end, event = self._event(world, entry)
        standing = world.standing(end)
        self.rows[end - 1][(standing, event)] = self.programs[end - 1].step(standing, event)
        make_entry(world, entry)
        if world.fault() is not None:
            if self.failed is None:
                self.failed = world.run()
            return
        situation = world.situation()
        if situation in self.met:
            return
        self.met[situation] = True
        self.worlds.append(world)
        if len(self.worlds) > self.most:
            raise TooMany(self.most + 1)

    def _event(self, world, entry):
        """Which end takes an entry that brings something new, and as what."""
        if entry[0] == "hand":
            return (self.text[world.turn()][1], ("handed", entry[1]))
        if entry[0] == "answer":
            return (entry[1], ("handed", entry[2]))
        return (entry[2], ("comes", entry[1], entry[3]))

    def _entries(self, world):
        """All entries that bring something new."""
        turn = world.turn()
        if turn is not None:
            step = self.text[turn]
            handed = [("hand", value) for value in range(values_of(step) + int(may_end(step)))]
        else:
            handed = []
        answered = []
        for end in world.asked():
            step = self.text[world.done()]
            answered.extend([("answer", end, number) for number in range(answer_of(step, end))])
        return handed + answered + [("give", u, w, kind) for u, w, kind in world.under_way()]


def _check(tree, text, programs, most):
    check_text(tree, text)
    check_programs(tree, programs)
    if not is_between(most, 1, MOST_SITUATIONS):
        raise InvalidMost(most)
    for step in text:
        numbers = [values_of(step)]
        if step[0] == "ask":
            numbers.extend(step[4])
        for number in numbers:
            if number > MOST_VALUES:
                raise TooMany(number)
