"""What several tests share: refused calls, wrong values, and examples that are played."""

import unittest

from upforgood.errors import InvalidSpec, TalkError, TooMany
from upforgood.lines import Line

# Values of all sorts that are no integers, True and False among them.
NO_INTEGERS = [True, False, None, "", "1", "letters", [], [1], (), (1,), {}, {"a": 1}, InvalidSpec(1), Line(("wires", 1))]
# Values of all sorts that are no lists, and no tuples either.
NO_LISTS = [True, False, None, 0, 1, -1, "", "12", {}, {"a": 1}, InvalidSpec([1]), Line(("wires", 1))]


class Case(unittest.TestCase):
    """A test case that can ask which error a call raises, and with which very objects."""

    def refused(self, error, given, call, *arguments, **named):
        self.refused_with(error, {"given": given}, call, *arguments, **named)

    def refused_with(self, error, attributes, call, *arguments, **named):
        with self.assertRaises(TalkError) as caught:
            call(*arguments, **named)
        self.assertIs(type(caught.exception), error)
        for name, value in attributes.items():
            self.assertIs(getattr(caught.exception, name), value)

    def too_many(self, count, call, *arguments):
        with self.assertRaises(TooMany) as caught:
            call(*arguments)
        self.assertEqual(caught.exception.count, count)
        self.assertIs(type(caught.exception.count), int)

    def same(self, value, expected):
        """Equal, and of the same kinds of values throughout: True is not 1, a list no tuple."""
        self.assertEqual(value, expected)
        self.assertEqual(repr(value), repr(expected))

    def play(self, text):
        """Play examples as the interface of the document has them."""
        known = {}
        lines = text.strip().split("\n")
        played = 0
        for at, line in enumerate(lines):
            if not line.startswith(">>> "):
                continue
            played += 1
            behind = lines[at + 1] if at + 1 < len(lines) else ">>> "
            if behind.startswith(">>> "):
                exec(line[4:], known)
            elif behind.startswith("raises "):
                self._play_refused(line[4:], behind[7:], known)
            else:
                self.assertEqual(repr(eval(line[4:], known)), behind, line)
        self.assertGreater(played, 1)

    def _play_refused(self, line, expected, known):
        with self.assertRaises(TalkError) as caught:
            eval(line, known)
        values = ", ".join([repr(value) for value in vars(caught.exception).values()])
        self.assertEqual(type(caught.exception).__name__ + "(" + values + ")", expected, line)
