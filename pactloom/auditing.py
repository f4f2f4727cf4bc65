"""Audits: what was done, told from the journals alone."""

from pactloom.journals import read_records


def audit(journals):
    """Returns the run that the journals of all parties tell, or the first party that has a deed left."""
    records = {party: read_records(journals[party]) for party in sorted(journals)}
    deeds = {party: _deeds_of(party, records) for party in records}
    places = {party: 0 for party in deeds}
    actions = []
    letter = _least_next(deeds, places)
    while letter is not None:
        actions.append(letter[:3])
        for party in sorted(set(letter[:2])):
            places[party] += 1
        letter = _least_next(deeds, places)
    for party in deeds:
        if places[party] < len(deeds[party]):
            return ("unfit", party)
    return ("run", actions)


def _deeds_of(party, records):
    """Returns the letters, tuples of sender, taker, label and number, that the records tell to be its deeds."""
    deeds = []
    waiting = None
    for kind, other, label, number in records[party]:
        if kind == "t":
            deeds.append((other, party, label, number))
        if kind == "p":
            waiting = (party, other, label, number)
        if kind == "k" and waiting is not None:
            deeds.append(waiting)
        if kind in ("k", "g"):
            waiting = None
    # Its taker knows whether a letter was taken whose answer has not come.
    if waiting is not None and ("t", party, *waiting[2:]) in records.get(waiting[1], []):
        deeds.append(waiting)
    return deeds


def _least_next(deeds, places):
    """Returns the least letter that is the next deed of its sender as well as of its taker, None if there is none."""
    next_deeds = {party: deeds[party][places[party]] for party in deeds if places[party] < len(deeds[party])}
    letters = []
    for party, letter in next_deeds.items():
        if letter[0] == party and next_deeds.get(letter[1]) == letter:
            letters.append(letter)
    return min(letters, default=None)
