"""The programs of all ends, made from a paper: points 101 to 103."""

from upforgood.acts import NO_TURN, Act
from upforgood.keeping import check_paper
from upforgood.roles import SPEAKER, Role
from upforgood.talks import new_state


class Made:
    """The program of one end, which speaks and answers by a paper."""

    def __init__(self, role):
        self._role = role

    def first(self):
        role = self._role
        turn = 0 if role.text[0][SPEAKER] == role.end else NO_TURN
        talks = [new_state(role.specs[near], role.end < near) for near in role.neighbours]
        return (turn, (), tuple(talks))

    def step(self, standing, event):
        act = Act(self._role, standing)
        if event[0] == "handed":
            act.handed(event[1])
        else:
            act.comes(event[1], event[2])
        return act.deed()


def made(tree, text, value):
    check_paper(tree, text, value)
    return [Made(Role(tree, text, value, end)) for end in range(1, tree.ends + 1)]
