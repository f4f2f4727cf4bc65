"""Cuts a text into tokens."""

from pactloom.errors import SourceError

WORDS = ("pact", "end", "choice", "both", "loop", "use")
LONGEST_NAME = 12
LETTERS = "abcdefghijklmnopqrstuvwxyz"
DIGITS = "0123456789"
SHORT_MARKS = "(){},;:|"
ARROW = "->"


def tokenize(text):
    """Returns the list of the tokens of a text: tuples of kind, characters and position."""
    tokens = []
    at = 0
    while at < len(text):
        if text[at] in " \n":
            at += 1
        else:
            token = _token_at(text, at)
            tokens.append(token)
            at += len(token[1])
    return tokens


def _token_at(text, at):
    if _belongs_to_run(text[at]):
        return _run_at(text, at)
    if text[at] in SHORT_MARKS:
        return ("mark", text[at], at)
    if text.startswith(ARROW, at):
        return ("mark", ARROW, at)
    raise SourceError(at)


def _run_at(text, at):
    behind = at
    while behind < len(text) and _belongs_to_run(text[behind]):
        behind += 1
    run = text[at:behind]
    if run[0] in DIGITS or len(run) > LONGEST_NAME:
        raise SourceError(at)
    if run in WORDS:
        return ("word", run, at)
    return ("name", run, at)


def _belongs_to_run(sign):
    # Methods like isdigit accept characters beyond the small letters and the ten digits.
    return sign in LETTERS or sign in DIGITS
