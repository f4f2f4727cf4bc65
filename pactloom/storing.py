"""Writes tables as texts, and reads them again."""

from pactloom.errors import TableError
from pactloom.guiding import distances
from pactloom.journals import MOST_DIGITS
from pactloom.lines import action_of, lines_of, print_action, text_of
from pactloom.numbering import number_states
from pactloom.tokens import DIGITS


def write_table(table):
    """Returns the text of a table."""
    _, rows, ends = table
    lines = []
    for state, row in enumerate(rows):
        lines.append(_state_line(state, ends[state]))
        for action, target in row:
            lines.append(f"  {print_action(action)} goto {target}")
    return text_of(lines)


def _state_line(state, end):
    return f"state {state} end" if end else f"state {state}"


def read_table(text):
    """Returns the table that a text tells."""
    lines, rest = lines_of(text)
    rows, ends = _rows_and_ends(lines)
    if rest != "":
        raise TableError(len(lines) + 1)
    for number, line in enumerate(lines, start=1):
        pair = _pair_of(line)
        if pair is not None and pair[1] >= len(rows):
            raise TableError(number)
    table = ("table", rows, ends)
    if not lines or not _is_joined(table):
        raise TableError(0)
    return table


def _rows_and_ends(lines):
    """Returns the rows and the ends that the lines tell, each of which must have its form and its place."""
    rows = []
    ends = []
    for number, line in enumerate(lines, start=1):
        pair = _pair_of(line)
        if line in (_state_line(len(rows), False), _state_line(len(rows), True)):
            ends.append(line == _state_line(len(rows), True))
            rows.append([])
        elif pair is not None and rows and _ascends(rows[-1], pair[0]):
            rows[-1].append(pair)
        else:
            raise TableError(number)
    return tuple([tuple(row) for row in rows]), tuple(ends)


def _pair_of(line):
    """Returns the pair of an action and the next state that a line tells, None if it tells none."""
    head, _, digits = line.rpartition(" goto ")
    if not head.startswith("  ") or not _is_number(digits):
        return None
    action = action_of(head.removeprefix("  "))
    if action is None:
        return None
    return action, int(digits)


def _is_number(digits):
    """Tells whether this is a number without needless zeros, and not too long."""
    if digits == "" or len(digits) > MOST_DIGITS or (digits[0] == "0" and digits != "0"):
        return False
    return all([sign in DIGITS for sign in digits])


def _ascends(row, action):
    """Tells whether the action may stand behind the pairs of a row."""
    return not row or row[-1][0] < action


def _is_joined(table):
    """Tells whether each state is reached from the start, and an end from each state."""
    found, _ = number_states(0, lambda state: table[1][state], len(table[1]))
    return len(found) == len(table[1]) and None not in distances(table)
