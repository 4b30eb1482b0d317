"""A bench on which texts lie beside a tree: points 231 to 233."""

from upforgood.checks import is_between
from upforgood.errors import InvalidName, InvalidSpec, NoText
from upforgood.history import History
from upforgood.keeping import barred, can_keep
from upforgood.lines import is_spec
from upforgood.specs import specs_for_all, specs_that_tell
from upforgood.texts import check_text
from upforgood.trees import Tree, check_neighbours

LETTERS_OF_NAMES = "abcdefghijklmnopqrstuvwxyz"
LONGEST_NAME = 8


class Bench:
    """A tree, and texts by their names. What lies there at a moment is a tuple of both that is never changed."""

    def __init__(self, tree):
        self._history = History((tree, {}))

    def put(self, name, text):
        tree, texts = self._history.now()
        check_text(tree, text)
        if not _is_name(name):
            raise InvalidName(name)
        laid = {other: texts[other] for other in texts}
        laid[name] = text
        self._history.note("put", (tree, laid))

    def drop(self, name):
        tree, texts = self._history.now()
        self._check_name(name)
        self._history.note("drop", (tree, {other: texts[other] for other in texts if other != name}))

    def change(self, u, w, spec):
        tree, texts = self._history.now()
        check_neighbours(tree, u, w)
        if not is_spec(spec):
            raise InvalidSpec(spec)
        pair = _pair(u, w)
        lines = [pair + (spec,) if line[:2] == pair else line for line in tree.lines]
        self._history.note("change", (Tree(tree.ends, lines), texts))

    def names(self):
        _, texts = self._history.now()
        return sorted(texts)

    def tree(self):
        tree, _ = self._history.now()
        return tree

    def text(self, name):
        self._check_name(name)
        _, texts = self._history.now()
        return texts[name]

    def barred(self, name):
        return barred(self.tree(), self.text(name))

    def verdicts(self):
        return [(name, can_keep(self.tree(), self.text(name))) for name in self.names()]

    def spare(self, u, w):
        tree = self.tree()
        check_neighbours(tree, u, w)
        spec = tree.spec(u, w)
        fewer = [other for other in _specs_within(spec) if other != spec]
        kept = [self.text(name) for name, is_kept in self.verdicts() if is_kept]
        if kept == []:
            return fewer
        low, high = _pair(u, w)
        told = specs_for_all(tree, kept, low, high)
        return [other for other in fewer if other in told]

    def needs(self, u, w):
        check_neighbours(self.tree(), u, w)
        return [name for name in self.names() if _pair(u, w) in self.barred(name)]

    def compared(self, one, other):
        first, second = self.text(one), self.text(other)
        tree = self.tree()
        found = []
        for u, w, _ in tree.lines:
            found.append(_compared(specs_that_tell(tree, first, u, w), specs_that_tell(tree, second, u, w)))
        return found

    def undo(self):
        self._history.undo()

    def redo(self):
        self._history.redo()

    def deeds(self):
        return len(self._history.standing())

    def _check_name(self, name):
        _, texts = self._history.now()
        if not isinstance(name, str) or name not in texts:
            raise NoText(name)


def _compared(first, second):
    """How two texts compare, by the specs that can tell the own row of each."""
    if first == second:
        return "same"
    if all([spec in second for spec in first]):
        return "more"
    if all([spec in first for spec in second]):
        return "less"
    return "unlike"


def _specs_within(spec):
    """The ascending list of the specs of its own sort that have no more of anything."""
    if spec[0] == "wires":
        return [("wires", wires) for wires in range(spec[1] + 1)]
    return [("letters", m, b) for m in range(spec[1] + 1) for b in range(spec[2] + 1)]


def _pair(u, w):
    return (min(u, w), max(u, w))


def _is_name(value):
    if not isinstance(value, str) or not is_between(len(value), 1, LONGEST_NAME):
        return False
    return all([letter in LETTERS_OF_NAMES for letter in value])
