"""Judges certificates by following their runs through the table."""

from pactloom.tables import walk
from pactloom.views import senders_at, view


def judge(table, certificate):
    """Tells whether the certificate is one of a fault, and everything holds that is said there."""
    kind, *parts = certificate
    if kind == "stray" and len(parts) == 4:
        return _shows_stray(table, *parts)
    if kind == "unready" and len(parts) == 3:
        return _shows_unready(table, *parts)
    if kind == "idle" and len(parts) == 2:
        return _shows_idle(table, *parts)
    # To tell that a protocol is accepted would need its machines.
    return False


def _shows_stray(table, run, action, first, second):
    return _shows_unready(table, run, action, first) and _could_do(table, run, action, action[1], second)


def _shows_unready(table, run, action, other):
    if walk(table, run) is None or walk(table, run + [action]) is not None:
        return False
    return _could_do(table, run, action, action[0], other)


def _could_do(table, run, action, party, other):
    """Tells whether the action follows the other run, and the party sees the same in both."""
    return view(other, party) == view(run, party) and walk(table, other + [action]) is not None


def _shows_idle(table, run, others):
    state = walk(table, run)
    if state is None or table[2][state]:
        return False
    if [party for party, _ in others] != senders_at(table, state):
        return False
    return all([_could_rest(table, run, party, other) for party, other in others])


def _could_rest(table, run, party, other):
    """Tells whether the other run is complete, and the party sees the same in both."""
    state = walk(table, other)
    return state is not None and table[2][state] and view(other, party) == view(run, party)
