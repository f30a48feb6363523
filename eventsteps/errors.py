"""The errors that the program raises."""


class StepError(ValueError):
    """The base class of all errors that the program raises."""


class ModelError(StepError):
    """A fault of a model: what it is, and its place in the list that it is about."""

    def __init__(self, what, place):
        self.what = what
        self.place = place


class LineError(StepError):
    """A fault of a text: what it is, and the number of its line, from 1."""

    def __init__(self, what, line):
        self.what = what
        self.line = line


class BenchError(StepError):
    """A deed that a bench refuses, and what is wrong with it."""

    def __init__(self, what):
        self.what = what
