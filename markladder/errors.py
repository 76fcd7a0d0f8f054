"""All errors of the package. Each one keeps the very objects that it is made with."""


class LadderError(ValueError):
    """The base class of all errors."""


class PaperError(LadderError):
    """Something that was judged is not right."""


class RuleError(LadderError):
    """Something that was asked cannot be answered."""


class LiveError(LadderError):
    """Something cannot happen in a live wood."""


class TextError(LadderError):
    """A text says nothing that can be read."""


class InvalidPaper(PaperError):
    """What is wrong with a paper or a value, and where."""

    def __init__(self, word, at):
        self.word = word
        self.at = at


class NotUsable(RuleError):
    """The name of a parameter that is not as stated."""

    def __init__(self, word, at):
        self.word = word
        self.at = at


class NoMarking(RuleError):
    """A shape for which there is no such marking."""

    def __init__(self, shape):
        self.shape = shape


class InvalidEvent(LiveError):
    """An event that is refused, and why."""

    def __init__(self, event, reason):
        self.event = event
        self.reason = reason


class NothingToUndo(LiveError):
    """There are fewer events than are to be taken back."""

    def __init__(self, steps):
        self.steps = steps


class InvalidText(TextError):
    """The line and the word at which a text cannot be read."""

    def __init__(self, line, field):
        self.line = line
        self.field = field


class InvalidRow(TextError):
    """A row that a desk cannot answer."""

    def __init__(self, row):
        self.row = row
