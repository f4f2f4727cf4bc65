"""Puts tables beside and behind one another."""

from pactloom.errors import TooLarge
from pactloom.numbering import moves_together
from pactloom.tables import MOST_STATES, table_of_sets


def beside(one, other):
    """Returns the table of the runs of one mixed with the runs of the other."""
    _, rows, ends = one
    _, other_rows, other_ends = other
    many = len(other_rows)
    if len(rows) * many > MOST_STATES:
        raise TooLarge()
    # A state of one and a state of the other together have the number state * many + other_state.
    pair_rows = []
    pair_ends = []
    for state, row in enumerate(rows):
        for other_state, other_row in enumerate(other_rows):
            moves = [(action, target * many + other_state) for action, target in row]
            pair_rows.append(moves + [(action, state * many + target) for action, target in other_row])
            pair_ends.append(ends[state] and other_ends[other_state])
    return table_of_sets((0,), lambda states: moves_together(pair_rows, states), pair_ends)


def behind(one, other):
    """Returns the table of the complete runs of one, each followed by a run of the other, and of the runs of one."""
    _, rows, ends = one
    _, other_rows, other_ends = other
    # The states of the other have the numbers behind those of one.
    many = len(rows)
    all_rows = list(rows) + [[(action, many + target) for action, target in row] for row in other_rows]
    all_ends = [False] * many + list(other_ends)

    def with_start(states):
        # A complete run of one leads to the start of the other, too, as the empty list is a run of the other.
        if any([state < many and ends[state] for state in states]):
            return tuple(sorted(set(states + (many,))))
        return states

    def moves_of(states):
        return [(action, with_start(targets)) for action, targets in moves_together(all_rows, states)]

    return table_of_sets(with_start((0,)), moves_of, all_ends)
