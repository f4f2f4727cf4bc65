"""Decides whether the machines of the parties together do what the protocol says."""

from pactloom.alike import complete_run, run_ahead_of
from pactloom.joining import joint_states_with
from pactloom.tables import next_state
from pactloom.views import machines_of, senders_at


def check(table):
    """Returns the tuple of "fine" if the protocol is accepted, otherwise a certificate for one of its faults."""
    machines = machines_of(table)
    for joint, run in joint_states_with(table, machines):
        states = dict(zip(machines, joint[1:]))
        for action in _sends_out_of_turn(table, joint[0], machines, states):
            if next_state(machines[action[1]], states[action[1]], action) is not None:
                return _stray(table, run, action)
        if _is_idle(table, joint[0], machines, states):
            return _idle(table, run, joint[0])
    return ("fine",)


def unready(table):
    """Returns None if the protocol is ready, otherwise a certificate for one of its faults."""
    machines = machines_of(table)
    for joint, run in joint_states_with(table, machines):
        states = dict(zip(machines, joint[1:]))
        actions = _sends_out_of_turn(table, joint[0], machines, states)
        if actions:
            action = actions[0]
            return ("unready", run, action, run_ahead_of(action, table, run, action[0]))
    return None


def _sends_out_of_turn(table, state, machines, states):
    """Returns the actions that the machines of their senders have, and the whole table has not."""
    in_turn = dict(table[1][state])
    actions = []
    for party in machines:
        for action, _ in machines[party][1][states[party]]:
            if action[0] == party and action not in in_turn:
                actions.append(action)
    return actions


def _is_idle(table, state, machines, states):
    """Tells whether the run is not complete, and all who could go on may rest."""
    if table[2][state]:
        return False
    return all([machines[party][2][states[party]] for party in senders_at(table, state)])


def _stray(table, run, action):
    sender, taker, _ = action
    return ("stray", run, action, run_ahead_of(action, table, run, sender), run_ahead_of(action, table, run, taker))


def _idle(table, run, state):
    others = [(party, complete_run(table, run, party)) for party in senders_at(table, state)]
    return ("idle", run, others)
