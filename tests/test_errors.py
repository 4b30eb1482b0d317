"""Points 9 and 21: all error classes and their attributes."""

import unittest

from upforgood import errors
from upforgood.errors import TalkError
from upforgood.lines import Line

GIVEN = """
InvalidNumber InvalidMany InvalidParts InvalidRest InvalidKinds InvalidSizes InvalidRank InvalidRounds
InvalidSpec InvalidSide InvalidKind InvalidEnds InvalidLines InvalidEnd InvalidValue InvalidText
InvalidStanding InvalidRows InvalidFolds InvalidRow InvalidOwn InvalidOther InvalidPlan InvalidMost
InvalidWires InvalidPaper InvalidAt InvalidPrograms InvalidPairs InvalidAnswers InvalidLetters InvalidTimes
InvalidLine InvalidTexts InvalidPrices InvalidOrder InvalidMessages InvalidTells InvalidName
""".split()
OTHERS = {
    "NotSent": ["kind"], "NoLine": ["u", "w"], "Failed": ["fault"], "NoTurn": [], "NotAsked": ["end"],
    "BadEntry": ["at"], "TooMany": ["count"], "Kept": [], "NoService": ["most"], "Handed": ["side"],
    "NoText": ["name"], "NotNow": [], "NotKept": [], "BadLine": ["at"], "NothingToUndo": [], "NothingToRedo": [],
}
ATTRIBUTES = {**{name: ["given"] for name in GIVEN}, **OTHERS}
ANY_VALUES = [
    None, True, False, 0, 1, -10 ** 60, "", "two words", [], [1, [2]], (), (1, (2,)), {}, {"a": [1]},
    Line(("letters", 1, 2)), TalkError(), [{"a": ({"b": (None,)},)}],
]


class Errors(unittest.TestCase):
    def test_talk_error(self):
        self.assertEqual(TalkError.__bases__, (ValueError,))
        self.assertEqual(vars(TalkError()), {})

    def test_no_class_is_missing_and_none_is_more(self):
        found = [name for name, value in vars(errors).items() if isinstance(value, type)]
        self.assertEqual(sorted(found), sorted(["TalkError"] + list(ATTRIBUTES)))
        self.assertEqual(len(GIVEN), 39)

    def test_each_is_a_direct_subclass(self):
        for name in ATTRIBUTES:
            error = getattr(errors, name)
            self.assertEqual(error.__bases__, (TalkError,), name)
            self.assertEqual(error.__name__, name)
            self.assertEqual(error.__module__, "upforgood.errors")

    def test_by_position(self):
        for name, attributes in ATTRIBUTES.items():
            for first in ANY_VALUES:
                values = [first, ANY_VALUES[-1]][:len(attributes)]
                self.holds(getattr(errors, name)(*values), attributes, values)

    def test_by_name(self):
        for name, attributes in ATTRIBUTES.items():
            for first in ANY_VALUES:
                values = [first, ANY_VALUES[9]][:len(attributes)]
                error = getattr(errors, name)(**dict(zip(attributes, values)))
                self.holds(error, attributes, values)

    def holds(self, error, attributes, values):
        self.assertIsInstance(error, TalkError)
        self.assertIsInstance(error, ValueError)
        self.assertEqual(sorted(vars(error)), sorted(attributes))
        for attribute, value in zip(attributes, values):
            self.assertIs(getattr(error, attribute), value)

    def test_values_are_not_left_out(self):
        for name, attributes in ATTRIBUTES.items():
            if attributes:
                with self.assertRaises(TypeError):
                    getattr(errors, name)()

    def test_raised_and_caught(self):
        for name, attributes in ATTRIBUTES.items():
            error = getattr(errors, name)
            with self.assertRaises(TalkError) as caught:
                raise error(*[[at] for at in range(len(attributes))])
            self.assertIs(type(caught.exception), error)


if __name__ == "__main__":
    unittest.main()
