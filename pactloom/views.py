"""What single parties see of a table: their views of its runs, and their machines."""

from pactloom.numbering import moves_together
from pactloom.tables import least, table_of_sets, walk


def parties_of(table):
    """Returns the list of the parties that take part in some action of a table, in ascending order."""
    found = {}
    for row in table[1]:
        for action, _ in row:
            found[action[0]] = True
            found[action[1]] = True
    return sorted(found)


def senders_at(table, state):
    """Returns the list of the senders of the actions at a state, in ascending order."""
    return sorted(set([action[0] for action, _ in table[1][state]]))


def takes_part(party, action):
    """Tells whether a party is the sender or the taker of an action."""
    return party in action[:2]


def view(actions, party):
    """Returns the list of those actions in which a party takes part."""
    return [action for action in actions if takes_part(party, action)]


def machine_of(table, party):
    """Returns the machine of a party: the least table of its views."""
    return _least_seen(table, lambda action: takes_part(party, action))


def machines_of(table):
    """Returns the dict from all parties of a table, in ascending order, to their machines."""
    return {party: machine_of(table, party) for party in parties_of(table)}


def hide(table, party):
    """Returns the least table of the runs with all actions of a party left out."""
    return _least_seen(table, lambda action: not takes_part(party, action))


def fits(table, actions):
    """Tells whether only parties of the table take part, and each sees a run of its machine."""
    parties = parties_of(table)
    for sender, taker, _ in actions:
        if sender not in parties or taker not in parties:
            return False
    for party in parties:
        if walk(machine_of(table, party), view(actions, party)) is None:
            return False
    return True


def _least_seen(table, is_seen):
    """Returns the least table of the runs with all actions left out that are not seen."""
    _, rows, ends = table
    seen_rows = [[pair for pair in row if is_seen(pair[0])] for row in rows]
    unseen = [[target for action, target in row if not is_seen(action)] for row in rows]

    def moves_of(states):
        return [(action, _closed(targets, unseen)) for action, targets in moves_together(seen_rows, states)]

    return least(table_of_sets(_closed((0,), unseen), moves_of, ends))


def _closed(states, unseen):
    """Returns the states and all that are reached from them unseen, as a tuple in ascending order."""
    found = {state: True for state in states}
    waiting = list(states)
    while waiting:
        state = waiting.pop()
        for target in unseen[state]:
            if target not in found:
                found[target] = True
                waiting.append(target)
    return tuple(sorted(found))
