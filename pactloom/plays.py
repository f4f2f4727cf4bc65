"""Plays: parties, and a net that loses, copies and reorders their messages."""

from pactloom.errors import NotPossible
from pactloom.journals import read_records
from pactloom.parties import Party, recover
from pactloom.views import machines_of

MOST_MESSAGES = 200
MOST_ROUNDS = 400


def play_of(table):
    """Returns the play with the machines of all parties of a table."""
    return Play(machines_of(table))


class Play:
    """One party for each machine, the messages on their way, and the actions taken."""

    def __init__(self, machines):
        self.parties = {name: Party(name, machines[name]) for name in machines}
        self.messages = []
        self.actions = []

    def do(self, move):
        """Does a move; raises NotPossible and changes nothing if it is not possible."""
        kind = move[0]
        if kind == "torn":
            self._tear(move[1], move[2])
        elif kind == "crash":
            party = self._party(move[1])
            self._crash(party, party.journal())
        elif kind == "copy":
            message = self._message(move[1])
            self._check_room()
            self.messages.append(message)
        elif kind == "lose":
            self._remove(move[1])
        else:
            party, written, messages = self._begin(move)
            self._note_taken(party, written)
            self.messages.extend(messages)

    def _tear(self, move, count):
        """Begins a move, of whose record only so many characters are written, and lets the party crash."""
        if move[0] not in ("post", "take", "carry") or count < 0:
            raise NotPossible()
        party, written, _ = self._begin(move)
        journal = party.journal()
        ahead = journal[:len(journal) - len(written)]
        self._note_taken(party, written[:count])
        self._crash(party, ahead + written[:count])

    def _begin(self, move):
        """Lets a party act or hear; returns it, what it wrote, and the messages that it would send."""
        if move[0] == "carry":
            party = self._addressee(self._message(move[1]))
        else:
            party = self._party(move[1])
        many = len(party.texts)
        messages = self._messages_for(move, party)
        return party, "".join(party.texts[many:]), messages

    def _messages_for(self, move, party):
        if move[0] == "carry":
            return party.hear(self._remove(move[1]))
        self._check_room()
        if move[0] == "post":
            return [party.post(move[2], move[3])]
        if move[0] == "take":
            return [party.take(move[2])]
        if move[0] == "withdraw":
            return [party.withdraw()]
        if move[0] == "again":
            return [party.again()]
        raise NotPossible()

    def _note_taken(self, party, written):
        """Adds to the actions what a whole record tells that was taken."""
        for kind, sender, label, _ in read_records(written):
            if kind == "t":
                self.actions.append((sender, party.name, label))

    def _crash(self, party, journal):
        self.parties[party.name] = recover(party.name, party.machine, journal)

    def _party(self, name):
        if name not in self.parties:
            raise NotPossible()
        return self.parties[name]

    def _addressee(self, message):
        kind, sender, taker = message[:3]
        return self._party(taker if kind in ("letter", "back") else sender)

    def _message(self, place):
        if place < 0 or place >= len(self.messages):
            raise NotPossible()
        return self.messages[place]

    def _remove(self, place):
        message = self._message(place)
        del self.messages[place]
        return message

    def _check_room(self):
        if len(self.messages) >= MOST_MESSAGES:
            raise NotPossible()

    def net(self):
        """Returns the list of the messages on their way."""
        return list(self.messages)

    def taken(self):
        """Returns the list of the actions taken."""
        return list(self.actions)

    def names(self):
        """Returns the list of the parties, in ascending order."""
        return sorted(self.parties)

    def can(self, party):
        """Returns the posts and takes that a party can do."""
        return self.parties[party].can()

    def rests(self, party):
        """Tells whether a party rests."""
        return self.parties[party].rests()

    def waits(self, party):
        """Returns the taker and the label of the letter for which a party waits, or None."""
        return self.parties[party].waits()

    def at(self, party):
        """Returns the state of the machine of a party."""
        return self.parties[party].at()

    def journal(self, party):
        """Returns the journal of a party."""
        return self.parties[party].journal()

    def at_rest(self):
        """Tells whether the net is empty and every party rests."""
        return not self.messages and all([party.rests() for party in self.parties.values()])

    def quieten(self):
        """Carries all messages, and withdraws all letters for which parties wait."""
        self._empty_net()
        for name in self.names():
            if self.waits(name) is not None:
                self.do(("withdraw", name))
                self._empty_net()

    def _empty_net(self):
        while self.messages:
            self.do(("carry", 0))

    def offer(self, sender, taker, label):
        """Posts a letter and tells whether it was taken; if it cannot be taken now, it is withdrawn."""
        self.do(("post", sender, taker, label))
        self._empty_net()
        is_taken = ("take", sender) in self.can(taker)
        self.do(("take", taker, sender) if is_taken else ("withdraw", sender))
        self._empty_net()
        return is_taken

    def settle(self, numbers):
        """Brings the play to rest; returns the number of letters taken in the rounds behind the quietening."""
        self.quieten()
        many = 0
        while many < MOST_ROUNDS:
            number = numbers[many] if many < len(numbers) else 0
            if not self._goes_on(number):
                break
            many += 1
        return many

    def _goes_on(self, number):
        """Goes through a round with this number; tells whether a letter was taken."""
        names = [name for name in self.names() if not self.rests(name)]
        for name in _turned(names, number):
            posts = [act for act in self.can(name) if act[0] == "post"]
            for _, taker, label in _turned(posts, number):
                if self.offer(name, taker, label):
                    return True
        return False


def _turned(rows, number):
    """Returns the list from the place on that is the remainder of the number, and then what stands ahead."""
    if not rows:
        return []
    first = number % len(rows)
    return rows[first:] + rows[:first]
