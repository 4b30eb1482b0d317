"""Runs in which programs fail that are to keep what cannot be kept: points 131 and 132.

The first line that bars is watched: what comes over it is chosen, and all else comes at
once. Different values are handed in copies of one run, in all of which the same comes
forward over the line, so that those beyond it cannot tell the copies apart.
"""

from upforgood.chase import Copy, chased
from upforgood.errors import Kept, TooMany
from upforgood.keeping import barred, numbers_of
from upforgood.parts import answers_in, hearers_in, is_end, whole_value
from upforgood.reach import LetterReach, WireReach
from upforgood.texts import check_text, rows_by_steps
from upforgood.trees import beyond
from upforgood.worlds import World, check_programs

MOST_KINDS = 6


def broken(tree, text, programs):
    check_text(tree, text)
    check_programs(tree, programs)
    bars = barred(tree, text)
    if bars == []:
        raise Kept()
    u, w = bars[0]
    count = max(tree.spec(u, w)[1:])
    if count > MOST_KINDS:
        raise TooMany(count)
    hunt = Hunt(tree, text, u, w)
    world = World(tree, text, programs)
    while world.fault() is None:
        world = hunt.step(world)
    return world.run()


class Hunt:
    """Ahead of each step nothing is under way, and the line cannot tell the rest of its row."""

    def __init__(self, tree, text, u, w):
        self.tree = tree
        self.text = text
        self.ends = (u, w)
        self.rows = rows_by_steps(tree, text, u, w)

    def step(self, world):
        """Play the next step, until the run has failed or this is so again."""
        at = world.turn()
        if self.rows[at] == []:
            return self._let_come(world, at)
        near, _ = self.rows[at][0]
        far = sum(self.ends) - near
        behind = chased(self._told(world, at, near, far))
        if behind.fault() is not None or self.text[at][0] != "ask":
            return behind
        return chased(self._answered(behind, at, far, near))

    def _let_come(self, world, at):
        """The step is nothing to the line."""
        u, w = self.ends
        world.hand(0)
        Copy(world, u, w, None, {hearer: 0 for hearer in self.text[at][2]}).finish()
        return world

    def _told(self, world, at, near, far):
        """Copies with values of the step that are different for the hearers beyond the line."""
        step = self.text[at]
        hearers = hearers_in(step, beyond(self.tree, near, far))
        aside = {hearer: 0 for hearer in step[2] if hearer not in hearers}
        reach = self._reach(self._rest(at, 1))
        many = Copy(world, near, far, reach, aside).greatest() + 1
        copies = []
        for told in range(many):
            behind = reach
            if is_end(step, hearers, told):
                behind = self._reach([])
            copies.append(Copy(world.copy(), near, far, behind, aside))
            copies[told].world.hand(whole_value(step, hearers, told))
        return copies

    def _answered(self, world, at, near, far):
        """Copies with different answers of the hearers beyond the line, who are on the near side now."""
        step = self.text[at]
        hearers = hearers_in(step, beyond(self.tree, far, near))
        reach = self._reach(self._rest(at, 2))
        many = Copy(world, near, far, reach, {}).greatest() + 1
        copies = []
        for told in range(many):
            answers = {hearer: 0 for hearer in step[2]}
            answers.update(dict(answers_in(step, hearers, told)))
            copies.append(Copy(world.copy(), near, far, reach, answers))
        return copies

    def _rest(self, at, begun):
        """What the line still has to tell behind so many numbers of a step."""
        rest = self.rows[at][begun:]
        for asked in self.rows[at + 1:]:
            rest.extend(asked)
        return numbers_of(rest)

    def _reach(self, row):
        spec = self.tree.spec(self.ends[0], self.ends[1])
        if spec[0] == "wires":
            return WireReach(row, spec[1])
        return LetterReach(row, max(spec[1:]))
