"""Tells whether records begin with a whole summary of a party."""

from pactloom.tables import next_state

# The kinds of the records of a summary, with their places in its order.
PLACES = {"a": 0, "n": 1, "y": 2, "x": 2, "w": 3, "z": 4}


def summary_length(name, machine, records):
    """Returns the number of the records of the whole summary with which the records begin, 0 if there is none."""
    kinds = [kind for kind, _, _, _ in records]
    if "z" not in kinds:
        return 0
    length = kinds.index("z") + 1
    summary = records[:length]
    if not _is_in_order(kinds[:length]) or not all([_has_its_dots(one) for one in summary]):
        return 0
    if summary[-1][3] != length or not _is_possible(name, machine, summary):
        return 0
    return length


def _is_in_order(kinds):
    """Tells whether these are the kinds of a summary, in their order, up to the first z."""
    if [kind for kind in kinds if kind not in PLACES]:
        return False
    places = [PLACES[kind] for kind in kinds]
    return places == sorted(places) and kinds.count("a") == 1 and kinds.count("w") <= 1


def _has_its_dots(summary_record):
    kind, other, label, _ = summary_record
    return (kind not in ("a", "z") or other == ".") and (kind == "w" or label == ".")


def _is_possible(name, machine, summary):
    """Tells whether the parties ascend, and whether the machine has the state and what is waited for."""
    state = summary[0][3] - 1
    posted = {other: number for kind, other, _, number in summary if kind == "n"}
    waited_for = [(other, label, number) for kind, other, label, number in summary if kind == "w"]
    if state >= len(machine[1]) or not _ascend(summary, ("n",)) or not _ascend(summary, ("y", "x")):
        return False
    for other, label, number in waited_for:
        if posted.get(other) != number or next_state(machine, state, (name, other, label)) is None:
            return False
    return True


def _ascend(summary, kinds):
    """Tells whether the parties of the records of these kinds ascend."""
    parties = [other for kind, other, _, _ in summary if kind in kinds]
    return parties == sorted(set(parties))
