"""All errors of the package. Each keeps the very values that it is created with."""


class TalkError(ValueError):
    """The base of all errors of the package."""


class InvalidNumber(TalkError):
    def __init__(self, given):
        self.given = given


class InvalidMany(TalkError):
    def __init__(self, given):
        self.given = given


class InvalidParts(TalkError):
    def __init__(self, given):
        self.given = given


class InvalidRest(TalkError):
    def __init__(self, given):
        self.given = given


class InvalidKinds(TalkError):
    def __init__(self, given):
        self.given = given


class InvalidSizes(TalkError):
    def __init__(self, given):
        self.given = given


class InvalidRank(TalkError):
    def __init__(self, given):
        self.given = given


class InvalidRounds(TalkError):
    def __init__(self, given):
        self.given = given


class InvalidSpec(TalkError):
    def __init__(self, given):
        self.given = given


class InvalidSide(TalkError):
    def __init__(self, given):
        self.given = given


class InvalidKind(TalkError):
    def __init__(self, given):
        self.given = given


class InvalidEnds(TalkError):
    def __init__(self, given):
        self.given = given


class InvalidLines(TalkError):
    def __init__(self, given):
        self.given = given


class InvalidEnd(TalkError):
    def __init__(self, given):
        self.given = given


class InvalidValue(TalkError):
    def __init__(self, given):
        self.given = given


class InvalidText(TalkError):
    def __init__(self, given):
        self.given = given


class InvalidStanding(TalkError):
    def __init__(self, given):
        self.given = given


class InvalidRows(TalkError):
    def __init__(self, given):
        self.given = given


class InvalidFolds(TalkError):
    def __init__(self, given):
        self.given = given


class InvalidRow(TalkError):
    def __init__(self, given):
        self.given = given


class InvalidOwn(TalkError):
    def __init__(self, given):
        self.given = given


class InvalidOther(TalkError):
    def __init__(self, given):
        self.given = given


class InvalidPlan(TalkError):
    def __init__(self, given):
        self.given = given


class InvalidMost(TalkError):
    def __init__(self, given):
        self.given = given


class InvalidWires(TalkError):
    def __init__(self, given):
        self.given = given


class InvalidPaper(TalkError):
    def __init__(self, given):
        self.given = given


class InvalidAt(TalkError):
    def __init__(self, given):
        self.given = given


class InvalidPrograms(TalkError):
    def __init__(self, given):
        self.given = given


class InvalidPairs(TalkError):
    def __init__(self, given):
        self.given = given


class InvalidAnswers(TalkError):
    def __init__(self, given):
        self.given = given


class InvalidLetters(TalkError):
    def __init__(self, given):
        self.given = given


class InvalidTimes(TalkError):
    def __init__(self, given):
        self.given = given


class InvalidLine(TalkError):
    def __init__(self, given):
        self.given = given


class InvalidTexts(TalkError):
    def __init__(self, given):
        self.given = given


class InvalidPrices(TalkError):
    def __init__(self, given):
        self.given = given


class InvalidOrder(TalkError):
    def __init__(self, given):
        self.given = given


class InvalidMessages(TalkError):
    def __init__(self, given):
        self.given = given


class InvalidTells(TalkError):
    def __init__(self, given):
        self.given = given


class InvalidName(TalkError):
    def __init__(self, given):
        self.given = given


class NotSent(TalkError):
    """A kind comes that was not sent."""

    def __init__(self, kind):
        self.kind = kind


class NoLine(TalkError):
    """No line joins these two ends."""

    def __init__(self, u, w):
        self.u = u
        self.w = w


class Failed(TalkError):
    """The run has failed already."""

    def __init__(self, fault):
        self.fault = fault


class NoTurn(TalkError):
    """Nothing may be handed now."""


class NotAsked(TalkError):
    """This end has nothing to answer now."""

    def __init__(self, end):
        self.end = end


class BadEntry(TalkError):
    """The entry at this index cannot be made."""

    def __init__(self, at):
        self.at = at


class TooMany(TalkError):
    """More than the limit of the point."""

    def __init__(self, count):
        self.count = count


class Kept(TalkError):
    """The text can be kept."""


class NoService(TalkError):
    """So many messages cannot be served."""

    def __init__(self, most):
        self.most = most


class Handed(TalkError):
    """This side was handed its value already."""

    def __init__(self, side):
        self.side = side


class NoText(TalkError):
    """No text lies under this name."""

    def __init__(self, name):
        self.name = name


class NotNow(TalkError):
    """The line cannot be done now."""


class NotKept(TalkError):
    """The text cannot be kept."""


class BadLine(TalkError):
    """The line at this index is wrong."""

    def __init__(self, at):
        self.at = at


class NothingToUndo(TalkError):
    """Nothing is left to undo."""


class NothingToRedo(TalkError):
    """Nothing is left to redo."""
