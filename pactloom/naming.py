"""Checks the names of a book that has the form of one."""

from pactloom.errors import NameTwice, SelfLetter, UnknownName, WrongCount


def check_names(book):
    """Raises the error of the first fault of names, from left to right."""
    counts = {}
    for _, name, parties, body in book:
        if name in counts:
            raise NameTwice(name)
        _check_no_party_twice(parties)
        _check_body(body, parties, counts)
        # A pact is known only behind its end, so that no pact uses itself.
        counts[name] = len(parties)


def _check_no_party_twice(parties):
    for at, party in enumerate(parties):
        if party in parties[:at]:
            raise NameTwice(party)


def _check_body(body, parties, counts):
    for step in body:
        if step[0] == "letter":
            _check_letter(step, parties)
        elif step[0] == "use":
            _check_use(step, parties, counts)
        elif step[0] == "loop":
            _check_body(step[1], parties, counts)
        else:
            for inner in step[1]:
                _check_body(inner, parties, counts)


def _check_letter(letter, parties):
    _, sender, taker, _ = letter
    if sender not in parties:
        raise UnknownName(sender)
    if taker not in parties:
        raise UnknownName(taker)
    if taker == sender:
        raise SelfLetter(taker)


def _check_use(use, parties, counts):
    _, name, given = use
    if name not in counts:
        raise UnknownName(name)
    for at, party in enumerate(given):
        if party not in parties:
            raise UnknownName(party)
        if party in given[:at]:
            raise NameTwice(party)
    if len(given) != counts[name]:
        raise WrongCount(name)
