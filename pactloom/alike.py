"""Finds runs that a party cannot tell from a given one."""

from pactloom.searching import first_found
from pactloom.tables import next_state
from pactloom.views import takes_part, view


def run_ahead_of(action, table, run, party):
    """Returns a run with the same view for the party that the action follows, None if there is none."""
    return _run_alike(table, run, party, lambda state: next_state(table, state, action) is not None)


def complete_run(table, run, party):
    """Returns a complete run with the same view for the party, None if there is none."""
    return _run_alike(table, run, party, lambda state: table[2][state])


def _run_alike(table, run, party, is_wanted):
    """Returns a run with the same view for the party that leads to a wanted state, None if there is none."""
    seen = view(run, party)

    def moves_of(place):
        many, state = place
        moves = []
        for action, target in table[1][state]:
            if not takes_part(party, action):
                moves.append((action, (many, target)))
            elif many < len(seen) and seen[many] == action:
                moves.append((action, (many + 1, target)))
        return moves

    found = first_found((0, 0), moves_of, lambda place: place[0] == len(seen) and is_wanted(place[1]))
    if found is None:
        return None
    return found[1]
