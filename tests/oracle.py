"""The points about runs, told a second time as plainly as possible and very slowly.

The tests compare the program with these functions on small bodies and tables.
"""

import functools
import itertools

from pactloom.printing import print_body


@functools.lru_cache(maxsize=None)
def is_whole(body, actions):
    """Point 10: is the tuple of actions a complete run of the body?"""
    if not body:
        return not actions
    return any(
        step_is_whole(body[0], actions[:at]) and is_whole(body[1:], actions[at:]) for at in range(len(actions) + 1)
    )


@functools.lru_cache(maxsize=None)
def step_is_whole(step, actions):
    """Point 10 for a step."""
    if step[0] == "letter":
        return actions == (step[1:],)
    if step[0] == "choice":
        return any(is_whole(body, actions) for body in step[1])
    if step[0] == "loop":
        return not actions or any(
            is_whole(step[1], actions[:at]) and step_is_whole(step, actions[at:]) for at in range(1, len(actions) + 1)
        )
    return any(all(map(is_whole, step[1], parts)) for parts in dealt(actions, len(step[1])))


@functools.lru_cache(maxsize=None)
def is_beginning(body, actions):
    """Point 10: is the tuple of actions a run of the body? Every body has some complete run."""
    if not body:
        return not actions
    return step_is_begun(body[0], actions) or any(
        step_is_whole(body[0], actions[:at]) and is_beginning(body[1:], actions[at:]) for at in range(len(actions) + 1)
    )


@functools.lru_cache(maxsize=None)
def step_is_begun(step, actions):
    """Point 10 for a step."""
    if not actions:
        return True
    if step[0] == "letter":
        return actions == (step[1:],)
    if step[0] == "choice":
        return any(is_beginning(body, actions) for body in step[1])
    if step[0] == "loop":
        return is_beginning(step[1], actions) or any(
            is_whole(step[1], actions[:at]) and step_is_begun(step, actions[at:]) for at in range(1, len(actions) + 1)
        )
    return any(all(map(is_beginning, step[1], parts)) for parts in dealt(actions, len(step[1])))


def dealt(actions, many):
    """All ways to deal a tuple of actions to many tuples, the order within each kept."""
    for places in itertools.product(range(many), repeat=len(actions)):
        yield tuple(tuple(x for x, place in zip(actions, places) if place == one) for one in range(many))


def firsts(body):
    """Point 11, as a list of pairs in any order."""
    if not body:
        return []
    pairs = [(x, rest + body[1:]) for x, rest in step_firsts(body[0])]
    return pairs + (firsts(body[1:]) if step_is_whole(body[0], ()) else [])


def step_firsts(step):
    """Point 11 for a step."""
    if step[0] == "letter":
        return [(step[1:], ())]
    if step[0] == "choice":
        return [pair for body in step[1] for pair in firsts(body)]
    if step[0] == "loop":
        return [(x, rest + (step,)) for x, rest in firsts(step[1])]
    pairs = []
    for at, body in enumerate(step[1]):
        for x, rest in firsts(body):
            left = tuple(b for b in step[1][:at] + (rest,) + step[1][at + 1:] if b)
            pairs.append((x, (("both", left),) if len(left) > 1 else left[0] if left else ()))
    return pairs


def sorted_firsts(body):
    """Point 11: what steps_of must tell."""
    return sorted(set(firsts(body)), key=lambda pair: (pair[0], print_body(pair[1])))


def letters_in(body):
    """The actions that occur in a body, in ascending order."""
    found = set()
    for step in body:
        if step[0] == "letter":
            found.add(step[1:])
        else:
            for inner in step[1] if step[0] != "loop" else [step[1]]:
                found.update(letters_in(inner))
    return sorted(found)


def lists_of(actions, longest):
    """All lists of these actions up to a length, the shorter ones first, then in ascending order."""
    for many in range(longest + 1):
        for found in itertools.product(sorted(actions), repeat=many):
            yield list(found)


def states_behind(table, actions, is_seen):
    """All states to which runs lead of which just these actions are seen."""
    _, rows, _ = table
    here = spread(rows, {0}, is_seen)
    for action in actions:
        here = spread(rows, {to for at in here for x, to in rows[at] if x == action}, is_seen)
    return here


def spread(rows, states, is_seen):
    """The states and all that are reached from them by actions that are not seen."""
    while True:
        more = states | {to for at in states for x, to in rows[at] if not is_seen(x)}
        if more == states:
            return states
        states = more


def fault_of_form(table):
    """What is wrong with the form of a table (point 13, and the numbers of point 14), None if nothing is."""
    if not (type(table) is tuple and len(table) == 3 and table[0] == "table"):
        return "no tuple of three"
    _, rows, ends = table
    if not (type(rows) is tuple and type(ends) is tuple and len(rows) == len(ends)):
        return "rows and ends"
    if not all(type(end) is bool for end in ends):
        return "an end that is neither True nor False"
    found = [0]
    for state, row in enumerate(rows):
        if type(row) is not tuple or any(type(pair) is not tuple or len(pair) != 2 for pair in row):
            return "the form of a row"
        actions = [action for action, _ in row]
        if actions != sorted(set(actions)) or any(type(x) is not tuple or len(x) != 3 for x in actions):
            return "the actions of a row"
        if state >= len(found):
            return "a state that is not reached"
        found += [to for at, (_, to) in enumerate(row) if to not in found and to not in [t for _, t in row[:at]]]
    if found != list(range(len(rows))):
        return "the numbers"
    alive = set()
    for _ in rows:
        alive |= {at for at, row in enumerate(rows) if ends[at] or any(to in alive for _, to in row)}
    return None if len(alive) == len(rows) else "a state from which no end is reached"


def seen_by(party):
    """A test that tells the actions in which a party takes part."""
    return lambda action: party in (action[0], action[1])


def everyone(table):
    """The parties of a table, in ascending order."""
    return sorted({name for row in table[1] for action, _ in row for name in action[:2]})


def states_seen(table, run, party):
    """All states to which runs lead that look like this run to the party."""
    return states_behind(table, list(filter(seen_by(party), run)), seen_by(party))


def machine_has(table, run, party, action):
    """Does the machine of the party, after its view of the run, have the action (point 18)?"""
    return seen_by(party)(action) and any(action in dict(table[1][at]) for at in states_seen(table, run, party))


def machine_rests(table, run, party):
    """May the machine of the party rest after its view of the run?"""
    return any(table[2][at] for at in states_seen(table, run, party))


def state_behind(table, run):
    """The state to which the run leads, None if it is no run."""
    state = 0
    for action in run:
        state = dict(table[1][state]).get(action)
        if state is None:
            return None
    return state


def is_stray(table, run, action):
    """Point 21."""
    state = state_behind(table, run)
    return (state is not None and action not in dict(table[1][state])
            and all(machine_has(table, run, party, action) for party in action[:2]))


def is_idle(table, run):
    """Point 22."""
    state = state_behind(table, run)
    return (state is not None and not table[2][state]
            and all(machine_rests(table, run, action[0]) for action, _ in table[1][state]))


def is_unready(table, run, action):
    """Point 23."""
    state = state_behind(table, run)
    return (state is not None and action not in dict(table[1][state])
            and machine_has(table, run, action[0], action))


def look_alike(one, other, party):
    """Do two runs have the same view for the party?"""
    return list(filter(seen_by(party), one)) == list(filter(seen_by(party), other))


def certificate_holds(table, certificate):
    """Points 26 and 27: does everything hold that the certificate says?"""
    kind, run, *parts = certificate
    if kind == "idle":
        return is_idle(table, run) and others_hold(table, run, parts[0])
    action, *others = parts
    is_fault = is_stray if kind == "stray" else is_unready
    return is_fault(table, run, action) and all(
        look_alike(run, other, party) and state_behind(table, other + [action]) is not None
        for party, other in zip(action[:2], others)
    )


def others_hold(table, run, others):
    """Point 26: are these the complete runs of an idle certificate?"""
    senders = {action[0] for action, _ in table[1][state_behind(table, run)]}
    return [party for party, _ in others] == sorted(senders) and all(
        look_alike(run, other, party) and state_behind(table, other) is not None
        and table[2][state_behind(table, other)] for party, other in others
    )


def situations(table):
    """Runs, one for each thing that all parties together may have seen: for faults, they stand for all runs."""
    runs = [[]]
    met = set()
    for run in runs:
        state = state_behind(table, run)
        place = (state, *(frozenset(states_seen(table, run, party)) for party in everyone(table)))
        if place not in met:
            met.add(place)
            runs += [run + [action] for action, _ in table[1][state]]
    return runs
