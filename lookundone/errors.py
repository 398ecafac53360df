"""The errors of Lookundone, and the check that refuses a parameter."""


class LookError(ValueError):
    """The base class of all errors."""


class PaperError(LookError):
    """What a checker was given does not hold."""


class WebError(LookError):
    """What was asked for does not exist for these arguments."""


class LiveError(LookError):
    """An event came ahead of its time."""


class TextError(LookError):
    """A text, or what it tells, is not in order."""


class InvalidPaper(PaperError):
    """The first entry of a checker's list that applies."""

    def __init__(self, word, at):
        self.word = word
        self.at = at


class NotUsable(WebError):
    """A parameter that is not as stated."""

    def __init__(self, word, at):
        self.word = word
        self.at = at


class NotEven(WebError):
    """A web that has not as many ins as outs."""

    def __init__(self, ins, outs):
        self.ins = ins
        self.outs = outs


class NoFlow(WebError):
    """A web without a flow, and the paper that shows it."""

    def __init__(self, paper):
        self.paper = paper


class NotRight(WebError):
    """Outcomes whose branch is not like the first one."""

    def __init__(self, outcomes):
        self.outcomes = outcomes


class NotReady(LiveError):
    """A dot whose turn to be looked at has not come."""

    def __init__(self, dot):
        self.dot = dot


class NotDone(LiveError):
    """Dots that are still to be looked at."""

    def __init__(self, dots):
        self.dots = dots


class InvalidText(TextError):
    """The place up to which a text could be one of its kind."""

    def __init__(self, line, column):
        self.line = line
        self.column = column


class BadScore(TextError):
    """A line of a score that can't be done."""

    def __init__(self, word, line):
        self.word = word
        self.line = line


class InvalidRow(TextError):
    """A command of a program's text that can't stand there."""

    def __init__(self, row):
        self.row = row


def need(holds, word):
    """Refuse the parameter called word unless what must hold of it holds."""
    if not holds:
        raise NotUsable(word, -1)
