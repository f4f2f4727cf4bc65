"""The errors that the program raises."""


class PactError(ValueError):
    """The base class of all errors that the program raises."""


class SourceError(PactError):
    """A text is no book; at is the position of the fault, counted from 0."""

    def __init__(self, at):
        self.at = at


class NameTwice(PactError):
    """A pact has the name of an earlier one, or a party stands twice among parties."""

    def __init__(self, name):
        self.name = name


class UnknownName(PactError):
    """A name stands for no party of the pact, or for no pact."""

    def __init__(self, name):
        self.name = name


class SelfLetter(PactError):
    """The taker of a letter is its sender, name."""

    def __init__(self, name):
        self.name = name


class WrongCount(PactError):
    """A use has another number of parties than the pact called name."""

    def __init__(self, name):
        self.name = name


class TableError(PactError):
    """A text is no text of a table; line is the number of the faulty line, counted from 1, or 0."""

    def __init__(self, line):
        self.line = line


class PaperError(PactError):
    """A text is no text of a certificate; line is the number of the faulty line, counted from 1."""

    def __init__(self, line):
        self.line = line


class TooLarge(PactError):
    """A result, or what must be gone through to find it, is larger than the document allows."""


class NotPossible(PactError):
    """An act or a move is not possible."""
