"""Summaries, which take the place of journals."""

from pactloom.journals import read_records, record
from pactloom.parties import recover
from pactloom.summaries import summary_length


def slim(party):
    """Returns the text of the summary of a party."""
    lines = [("a", ".", ".", party.state + 1)]
    for other in sorted(party.posted):
        lines.append(("n", other, ".", party.posted[other]))
    for other in sorted(party.settled):
        number, was_taken = party.settled[other]
        lines.append(("y" if was_taken else "x", other, ".", number))
    if party.waiting is not None:
        lines.append(("w", *party.waiting))
    lines.append(("z", ".", ".", len(lines) + 1))
    return "".join([record(*line) for line in lines])


def recover_slots(name, machine, old, new):
    """Returns the party that recovers from new if that begins with a whole summary, otherwise from old."""
    if summary_length(name, machine, read_records(new)) > 0:
        return recover(name, machine, new)
    return recover(name, machine, old)
