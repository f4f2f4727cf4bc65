"""Guides plays to an end by the shortest way."""

from pactloom.errors import NotPossible
from pactloom.tables import next_state, walk


def distances(table):
    """Returns the list of the distances of all states, None for a state from which no end can be reached."""
    _, rows, ends = table
    ahead = [[] for _ in rows]
    for state, row in enumerate(rows):
        for _, target in row:
            ahead[target].append(state)
    far = [0 if end else None for end in ends]
    found = [state for state, end in enumerate(ends) if end]
    at = 0
    while at < len(found):
        here = found[at]
        for state in ahead[here]:
            if far[state] is None:
                far[state] = far[here] + 1
                found.append(state)
        at += 1
    return far


def homeward(table, state):
    """Returns the next action of the way home from a state, None at an end."""
    return _next_home(table, distances(table), state)


def _next_home(table, far, state):
    """Returns the same, where the distances are known already."""
    for action, target in table[1][state]:
        if far[target] < far[state]:
            return action
    return None


def finish(play, table):
    """Quietens a play and leads it home; returns the number of the letters taken on the way home."""
    play.quieten()
    state = walk(table, play.taken())
    if state is None:
        raise NotPossible()
    far = distances(table)
    many = 0
    action = _next_home(table, far, state)
    while action is not None:
        if not play.offer(*action):
            raise NotPossible()
        many += 1
        state = next_state(table, state, action)
        action = _next_home(table, far, state)
    return many
