"""Sessions by lines of text: points 171 to 173."""

from upforgood.ends import made
from upforgood.errors import BadLine, InvalidLine, NotKept, NotNow, TalkError, TooMany
from upforgood.history import History
from upforgood.keeping import barred, papers
from upforgood.phrases import listed, phrase, said_phrase
from upforgood.texts import is_text
from upforgood.trees import FEWEST_ENDS, MOST_ENDS, Tree, joins_anew
from upforgood.words import line_in
from upforgood.worlds import World, enter

MOST_LINES = 200


class Session:
    """A tree, a text and a run, as the lines that were done have made them."""

    def __init__(self):
        self._history = History(Desk(0, (), (), None))

    def do(self, line):
        told = line_in(line)
        if told is None:
            raise InvalidLine(line)
        action = ACTIONS[told[0]]
        done = action(self._history.now(), told)
        if done is None:
            raise InvalidLine(line)
        desk, answer = done
        self._history.note(line, desk)
        return answer

    def lines(self):
        return self._history.standing()

    def undo(self):
        self._history.undo()

    def redo(self):
        self._history.redo()


class Desk:
    """What a session has at one moment. It is never changed: an entry is made in a copy of its world."""

    def __init__(self, ends, lines, text, world):
        self.ends = ends
        self.lines = lines
        self.text = text
        self.world = world

    def has_tree(self):
        return self.ends > 0 and len(self.lines) == self.ends - 1

    def tree(self):
        if not self.has_tree():
            raise NotNow()
        return Tree(self.ends, self.lines)

    def tree_with_a_text(self):
        tree = self.tree()
        if self.text == ():
            raise NotNow()
        return tree

    def running(self):
        """The world of the run, for who does not change it."""
        if self.world is None:
            raise NotNow()
        return self.world

    def with_world(self, world):
        return Desk(self.ends, self.lines, self.text, world)


def play(lines):
    if len(lines) > MOST_LINES:
        raise TooMany(len(lines))
    session = Session()
    answers = []
    for at, line in enumerate(lines):
        try:
            answers.append(session.do(line))
        except TalkError:
            raise BadLine(at) from None
    return answers


def _begin(_, told):
    if not FEWEST_ENDS <= told[1] <= MOST_ENDS:
        return None
    return (Desk(told[1], (), (), None), "ends")


def _add_line(desk, told):
    if desk.ends == 0 or desk.has_tree():
        raise NotNow()
    if not joins_anew(desk.ends, desk.lines, told[1:]):
        return None
    return (Desk(desk.ends, desk.lines + (told[1:],), (), None), "line")


def _add_step(desk, told):
    text = desk.text + told[1:]
    if not is_text(desk.tree(), text):
        return None
    return (Desk(desk.ends, desk.lines, text, None), "step")


def _keep(desk, _):
    bars = barred(desk.tree_with_a_text(), desk.text)
    if bars == []:
        return (desk, "yes")
    return (desk, "no " + listed([phrase(pair) for pair in bars]))


def _start(desk, _):
    tree = desk.tree_with_a_text()
    paper = papers(tree, desk.text)
    if paper is None:
        raise NotKept()
    world = World(tree, desk.text, made(tree, desk.text, paper))
    return (desk.with_world(world), "started")


def _enter(desk, told):
    world = desk.running().copy()
    said = enter(world, told)
    return (desk.with_world(world), said_phrase(said))


def _calm(desk, _):
    world = desk.running().copy()
    entries = world.calm()
    return (desk.with_world(world), str(len(entries)))


def _show(desk, _):
    world = desk.running()
    if world.is_over():
        shown = "over"
    elif world.turn() is not None:
        shown = phrase(("turn", world.turn()))
    else:
        shown = "open"
    return (desk, listed([shown] + [phrase(given) for given in world.under_way()]))


ACTIONS = {
    "ends": _begin,
    "line": _add_line,
    "step": _add_step,
    "keep": _keep,
    "start": _start,
    "hand": _enter,
    "answer": _enter,
    "give": _enter,
    "calm": _calm,
    "show": _show,
}
