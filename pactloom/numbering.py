"""Numbers states in the order in which they are found."""

from pactloom.errors import TooLarge


def number_states(start, moves_of, most):
    """Returns the list of the states found from start, and the rows of a table with their numbers.

    moves_of tells for a state the pairs of an action and the next state, in ascending order of the actions.
    Raises TooLarge if there are more than most states.
    """
    numbers = {start: 0}
    states = [start]
    rows = []
    while len(rows) < len(states):
        row = []
        moves = moves_of(states[len(rows)])
        for action, state in moves:
            if state not in numbers:
                if len(states) == most:
                    raise TooLarge()
                numbers[state] = len(states)
                states.append(state)
            row.append((action, numbers[state]))
        rows.append(tuple(row))
    return states, tuple(rows)


def moves_together(rows, states):
    """Returns the pairs of an action and all states to which it leads from some of the states.

    The pairs ascend by the actions, and so do the states within them, which are a tuple of numbers.
    """
    targets = {}
    for state in states:
        for action, target in rows[state]:
            targets.setdefault(action, {})[target] = True
    return [(action, tuple(sorted(targets[action]))) for action in sorted(targets)]
