"""The joint states of a table and the machines of its parties."""

from pactloom.numbering import number_states
from pactloom.views import machines_of

MOST_JOINT_STATES = 3000


def joint_states(table):
    """Returns the pairs of a joint state and the run by which it was found first."""
    return joint_states_with(table, machines_of(table))


def joint_states_with(table, machines):
    """Returns the same, where the dict from the parties to their machines is known already."""
    targets = [[dict(row) for row in some[1]] for some in [table] + list(machines.values())]
    places = {party: place for place, party in enumerate(machines, start=1)}

    def moves_of(joint):
        moves = []
        for action, _ in table[1][joint[0]]:
            moves.append((action, _joint_behind(targets, joint, action, [0, places[action[0]], places[action[1]]])))
        return moves

    states, rows = number_states((0,) * len(targets), moves_of, MOST_JOINT_STATES)
    return list(zip(states, _first_runs(rows)))


def _joint_behind(targets, joint, action, places):
    """Returns the joint state in which those at these places have gone on by the action."""
    behind = list(joint)
    for place in places:
        behind[place] = targets[place][joint[place]][action]
    return tuple(behind)


def _first_runs(rows):
    """Returns for each state the run by which it was found, as the states are numbered in that order."""
    runs = [[]]
    for state, row in enumerate(rows):
        for action, target in row:
            if target == len(runs):
                runs.append(runs[state] + [action])
    return runs
