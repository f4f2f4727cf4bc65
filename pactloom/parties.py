"""Parties, which carry out their machines and write journals."""

from pactloom.errors import NotPossible
from pactloom.journals import read_records, record
from pactloom.summaries import summary_length
from pactloom.tables import next_state


class Party:
    """A party: its machine, what it posted and settled, and the journal that tells all this."""

    def __init__(self, name, machine):
        self.name = name
        self.machine = machine
        self.state = 0
        # One text for each record of the journal.
        self.texts = []
        # From the other parties to numbers of letters, and to the newest settled number and whether it was taken.
        self.posted = {}
        self.settled = {}
        # The taker, the label and the number of the letter for which it waits.
        self.waiting = None
        self.withdrawing = False
        # From senders to the number and the label of their letters.
        self.offered = {}

    def post(self, taker, label):
        """Posts a letter and returns it."""
        number = self.posted.get(taker, 0) + 1
        if not self.allows("p", taker, label, number):
            raise NotPossible()
        self.enter("p", taker, label, number)
        return self.again()

    def withdraw(self):
        """Withdraws the letter for which it waits: returns its back."""
        if self.waiting is None:
            raise NotPossible()
        self.withdrawing = True
        return self.again()

    def again(self):
        """Returns once more what it last told of the letter for which it waits: the letter or its back."""
        if self.waiting is None:
            raise NotPossible()
        taker, label, number = self.waiting
        if self.withdrawing:
            return ("back", self.name, taker, number)
        return ("letter", self.name, taker, number, label)

    def take(self, sender):
        """Takes the letter that the sender offers, and returns that it is taken."""
        if sender not in self.offered:
            raise NotPossible()
        number, label = self.offered[sender]
        if not self.allows("t", sender, label, number):
            raise NotPossible()
        self.enter("t", sender, label, number)
        del self.offered[sender]
        return ("taken", sender, self.name, number)

    def hear(self, message):
        """Hears a message and returns the list of at most one answer."""
        kind, sender, taker, number = message[:4]
        if kind == "letter" and taker == self.name:
            return self._hear_letter(sender, number, message[4])
        if kind == "back" and taker == self.name:
            return self._hear_back(sender, number)
        if kind in ("taken", "gone") and sender == self.name:
            self._hear_answer(kind, taker, number)
        return []

    def _hear_letter(self, sender, number, label):
        newest = self._newest_settled(sender)[0]
        if number == newest:
            return [self._answer(sender)]
        if number > newest and (sender not in self.offered or number > self.offered[sender][0]):
            self.offered[sender] = (number, label)
        return []

    def _hear_back(self, sender, number):
        newest = self._newest_settled(sender)[0]
        if number < newest:
            return []
        if number > newest:
            self.enter("r", sender, ".", number)
            if sender in self.offered and self.offered[sender][0] <= number:
                del self.offered[sender]
        return [self._answer(sender)]

    def _hear_answer(self, kind, taker, number):
        if self.waiting is None:
            return
        other, label, awaited = self.waiting
        if (taker, number) == (other, awaited):
            self.enter("k" if kind == "taken" else "g", other, label, number)

    def _newest_settled(self, sender):
        """Returns the newest settled number of a sender, and whether it was taken."""
        return self.settled.get(sender, (0, False))

    def _answer(self, sender):
        """Returns the message that tells how the newest settled number of a sender was settled."""
        number, was_taken = self._newest_settled(sender)
        return ("taken" if was_taken else "gone", sender, self.name, number)

    def can(self):
        """Returns the list of the posts and takes that are possible, in ascending order."""
        if self.waiting is not None:
            return []
        acts = []
        for (sender, taker, label), _ in self.machine[1][self.state]:
            if sender == self.name:
                acts.append(("post", taker, label))
            elif taker == self.name and sender in self.offered and self.offered[sender][1] == label:
                acts.append(("take", sender))
        return sorted(acts)

    def rests(self):
        """Tells whether it does not wait and its machine may rest."""
        return self.waiting is None and self.machine[2][self.state]

    def waits(self):
        """Returns the taker and the label of the letter for which it waits, or None."""
        if self.waiting is None:
            return None
        return self.waiting[:2]

    def offers(self):
        """Returns the dict from the senders of its offers to their labels."""
        return {sender: label for sender, (_, label) in self.offered.items()}

    def at(self):
        """Returns the state of its machine."""
        return self.state

    def journal(self):
        """Returns the text of its journal."""
        return "".join(self.texts)

    def allows(self, kind, other, label, number):
        """Tells whether a record is possible now."""
        if kind == "p":
            is_next = number == self.posted.get(other, 0) + 1
            return self.waiting is None and is_next and self._behind((self.name, other, label)) is not None
        if kind == "k" or kind == "g":
            return self.waiting == (other, label, number)
        is_new = number > self._newest_settled(other)[0]
        if kind == "t":
            return self.waiting is None and is_new and self._behind((other, self.name, label)) is not None
        return kind == "r" and label == "." and is_new

    def enter(self, kind, other, label, number):
        """Writes a record, which may be one of a summary, and does what it says."""
        self.texts.append(record(kind, other, label, number))
        if kind == "a":
            self.state = number - 1
        if kind in ("p", "n"):
            self.posted[other] = number
        if kind in ("p", "w"):
            self.waiting = (other, label, number)
        if kind in ("k", "g"):
            self.waiting = None
            self.withdrawing = False
        if kind in ("t", "y", "r", "x"):
            self.settled[other] = (number, kind in ("t", "y"))
        if kind == "k":
            self.state = self._behind((self.name, other, label))
        if kind == "t":
            self.state = self._behind((other, self.name, label))

    def _behind(self, action):
        """Returns the state to which its machine goes by the action, None if it does not have it."""
        return next_state(self.machine, self.state, action)


def recover(name, machine, journal):
    """Returns the party that has done what the whole records of the journal say."""
    party = Party(name, machine)
    records = read_records(journal)
    length = summary_length(name, machine, records)
    for kind, other, label, number in records[:length]:
        party.enter(kind, other, label, number)
    # If a summary is not whole, its first record is none that is possible.
    for kind, other, label, number in records[length:]:
        if not party.allows(kind, other, label, number):
            break
        party.enter(kind, other, label, number)
    return party
