"""What was done, one behind the other, undone and done again: points 173 and 233."""

from upforgood.errors import NothingToRedo, NothingToUndo


class History:
    """The deeds that stand, and what each of them led to. What they led to is never changed."""

    def __init__(self, first):
        self._deeds = []
        self._states = [first]
        self._undone = []

    def now(self):
        return self._states[-1]

    def note(self, deed, state):
        self._deeds.append(deed)
        self._states.append(state)
        self._undone = []

    def undo(self):
        if self._deeds == []:
            raise NothingToUndo()
        self._undone.append((self._deeds.pop(), self._states.pop()))

    def redo(self):
        if self._undone == []:
            raise NothingToRedo()
        deed, state = self._undone.pop()
        self._deeds.append(deed)
        self._states.append(state)

    def standing(self):
        """The deeds that stand, in order."""
        return list(self._deeds)
