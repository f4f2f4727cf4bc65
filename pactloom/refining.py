"""Decides whether one machine can stand in for another one."""

from pactloom.searching import first_found
from pactloom.tables import walk
from pactloom.views import takes_part


def refining_fault(first, second, party):
    """Returns None if first refines second for the party, otherwise a list of actions and the fault behind them."""

    def moves_of(states):
        targets = dict(second[1][states[1]])
        moves = []
        for action, target in first[1][states[0]]:
            if action in targets and takes_part(party, action):
                moves.append((action, (target, targets[action])))
        return moves

    found = first_found((0, 0), moves_of, lambda states: len(_faults_at(first, second, party, states)) > 0)
    if found is None:
        return None
    states, actions = found
    return (actions, _faults_at(first, second, party, states)[0])


def judge_refining(first, second, party, certificate):
    """Tells whether everything holds that the certificate says."""
    actions, fault = certificate
    states = (walk(first, actions), walk(second, actions))
    if None in states or not all([takes_part(party, action) for action in actions]):
        return False
    return fault in _faults_at(first, second, party, states)


def _faults_at(first, second, party, states):
    """Returns the list of the faults at a state of the first and a state of the second."""
    state, other_state = states
    own = [action for action, _ in first[1][state]]
    others = [action for action, _ in second[1][other_state]]
    faults = [("send", action) for action in own if action[0] == party and action not in others]
    faults.extend([("take", action) for action in others if action[1] == party and action not in own])
    rests, other_rests = first[2][state], second[2][other_state]
    if rests and not other_rests:
        faults.append(("rest",))
    if not rests and not _can_send(own, party) and (other_rests or _can_send(others, party)):
        faults.append(("silent",))
    return faults


def _can_send(actions, party):
    return any([action[0] == party for action in actions])
