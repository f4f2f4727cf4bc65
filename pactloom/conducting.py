"""Conducts protocols: one more party tells all others when their letters are due."""

from pactloom.numbering import number_states

MOST_CONDUCTED_STATES = 900


def conduct(table, conductor):
    """Returns the table in which the conductor asks for each letter and is told that it was taken."""
    _, rows, ends = table

    def moves_of(place):
        # Of the action at this place of the row of a state, so many of its three actions are done.
        state, at, done = place
        if done == 0:
            return sorted([(_ask(conductor, pair[0]), (state, each, 1)) for each, pair in enumerate(rows[state])])
        action, target = rows[state][at]
        if done == 1:
            return [(action, (state, at, 2))]
        return [(_tell(conductor, action), (target, 0, 0))]

    places, found_rows = number_states((0, 0, 0), moves_of, MOST_CONDUCTED_STATES)
    return ("table", found_rows, tuple([done == 0 and ends[state] for state, _, done in places]))


def _ask(conductor, action):
    sender, taker, label = action
    return (conductor, sender, label + "." + taker)


def _tell(conductor, action):
    sender, taker, label = action
    return (taker, conductor, label + "." + sender)
