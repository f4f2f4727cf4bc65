"""The tables of bodies, and what can be told of tables."""

from pactloom.errors import TooLarge
from pactloom.meaning import may_end, printed_steps_of
from pactloom.numbering import moves_together, number_states
from pactloom.printing import print_body
from pactloom.searching import first_found

MOST_STATES = 300


def graph_of(body):
    """Returns the triples of a state, its steps and whether it may end, one for each state of the graph."""
    bodies, steps = _explore(body)
    graph = []
    for text in sorted(bodies):
        pairs = [(action, rest) for action, _, rest in steps[text]]
        graph.append((bodies[text], pairs, may_end(bodies[text])))
    return graph


def _explore(body):
    """Returns two dicts from the printed forms of the states: to the states, and to their printed steps."""
    start = print_body(body)
    bodies = {start: body}
    steps = {}
    waiting = [start]
    while waiting:
        state = waiting.pop()
        steps[state] = printed_steps_of(bodies[state])
        for _, text, rest in steps[state]:
            if text not in bodies:
                if len(bodies) == MOST_STATES:
                    raise TooLarge()
                bodies[text] = rest
                waiting.append(text)
    return bodies, steps


def table_of(body):
    """Returns the table of a body without uses."""
    bodies, steps = _explore(body)
    texts = list(bodies)
    places = {text: place for place, text in enumerate(texts)}
    rows = [[(action, places[rest]) for action, rest, _ in steps[text]] for text in texts]
    ends = [may_end(bodies[text]) for text in texts]
    return table_of_sets((places[print_body(body)],), lambda states: moves_together(rows, states), ends)


def table_of_sets(start, moves_of, ends):
    """Returns the table whose states are the sets of states, tuples in ascending order, that are found from start.

    moves_of tells for a set the pairs of an action and the next set; ends tells for each state whether it is an end.
    """
    sets, rows = number_states(start, moves_of, MOST_STATES)
    return ("table", rows, tuple([any([ends[state] for state in states]) for states in sets]))


def least(table):
    """Returns the table with one state for each class of alike states of a table."""
    _, rows, ends = table
    classes = _classes_of_alike(rows, ends)
    moves = {}
    class_ends = {}
    for state, row in enumerate(rows):
        moves[classes[state]] = [(action, classes[target]) for action, target in row]
        class_ends[classes[state]] = ends[state]
    found, found_rows = number_states(classes[0], lambda number: moves[number], len(rows))
    return ("table", found_rows, tuple([class_ends[number] for number in found]))


def _classes_of_alike(rows, ends):
    """Returns for each state the number of its class."""
    classes = _number_alike([(ends[state], tuple([pair[0] for pair in row])) for state, row in enumerate(rows)])
    many = 0
    while len(set(classes)) > many:
        many = len(set(classes))
        classes = _number_alike([
            (classes[state], tuple([classes[pair[1]] for pair in row])) for state, row in enumerate(rows)
        ])
    return classes


def _number_alike(keys):
    """Returns for each key a number, the same for equal keys."""
    numbers = {}
    for key in keys:
        numbers.setdefault(key, len(numbers))
    return [numbers[key] for key in keys]


def difference(one, other):
    """Returns None if two tables have the same runs and complete runs, otherwise a kind and a list of actions."""
    _, rows, ends = one
    _, other_rows, other_ends = other

    def moves_of(states):
        return _pairs_behind(rows[states[0]], other_rows[states[1]])

    def is_fault(states):
        return None in states or ends[states[0]] != other_ends[states[1]]

    found = first_found((0, 0), moves_of, is_fault)
    if found is None:
        return None
    states, actions = found
    return ("run" if None in states else "whole", actions)


def _pairs_behind(row, other_row):
    """Returns each action of two rows with the next states, None for the row that does not have it."""
    targets = dict(row)
    other_targets = dict(other_row)
    actions = sorted(set(targets) | set(other_targets))
    return [(action, (targets.get(action), other_targets.get(action))) for action in actions]


def walk(table, actions):
    """Returns the state to which the actions lead from the start, None if they are no run."""
    state = 0
    for action in actions:
        state = next_state(table, state, action)
        if state is None:
            return None
    return state


def next_state(table, state, action):
    """Returns the state to which an action leads from a state, None if there is none."""
    for known, target in table[1][state]:
        if known == action:
            return target
    return None
