"""Protocols to play, random moves, and the points about parties and plays told a second time."""

import random

from oracle import state_behind
from pactloom.checking import check
from pactloom.linking import link
from pactloom.reading import read_book
from pactloom.tables import table_of
from samples import random_tables, small_bodies

BODIES = [
    "",
    "a -> b: x",
    "a -> b: x; b -> c: y; c -> a: z",
    "loop {a -> b: ask; b -> a: say}",
    "loop {a -> b: x}; a -> b: y",
    "choice {a -> b: x; b -> c: x | a -> b: y; b -> c: y}; c -> a: done",
    "choice { | a -> b: x}",
    "both {a -> b: x; b -> a: y | c -> d: x; d -> c: y}",
    "a -> b: go; both {b -> c: x; c -> a: x | b -> d: x; d -> a: y}",
    "loop {choice {a -> b: x; b -> a: x | a -> c: x; c -> a: y}}",
    "choice {a -> b: x | b -> a: y}; a -> b: z",
    "loop {both {a -> b: x | b -> a: x}}",
    "both {a -> b: x | b -> c: x | c -> a: x}",
    "a -> b: x; c -> b: x; loop {b -> c: again; c -> b: x}",
]


def table_from(text):
    """The table of a body that is written for the parties a, b, c and d."""
    return table_of(link(read_book("pact p(a, b, c, d) " + text + " end"), "p"))


def accepted_tables(seed=0, many=0):
    """Tables of accepted protocols; some of them random ones."""
    tables = [table_from(text) for text in BODIES]
    actions = [("a", "b", "x"), ("b", "a", "x"), ("b", "c", "x"), ("c", "a", "y"), ("a", "b", "y")]
    tables += [table_of(body) for body in small_bodies(seed, many, 2, actions)]
    tables += random_tables(seed, many, actions)
    return [table for table in tables if check(table) == ("fine",)]


def told(party):
    """All that a Party tells of itself."""
    return (party.at(), party.waits(), party.offers(), party.can(), party.rests(), party.journal())


def shown(play):
    """All that a Play tells of itself."""
    parties = [
        (name, play.at(name), play.waits(name), play.can(name), play.rests(name), play.journal(name))
        for name in play.names()
    ]
    return parties, play.net(), play.taken(), play.at_rest()


def moves_of(play, chance, crashes=True):
    """Moves that look possible; without crashes, none that loses anything."""
    moves = []
    for name in play.names():
        moves += [(act[0], name, *act[1:]) for act in play.can(name)]
        if play.waits(name):
            moves += [("again", name), ("withdraw", name)]
        if crashes:
            moves.append(("crash", name))
    for place in range(min(len(play.net()), 4)):
        moves += [("carry", place), ("copy", place)] + ([("lose", place)] if crashes else [])
    if crashes:
        moves += [("torn", move, chance.randrange(20)) for move in moves if move[0] in ("post", "take", "carry")]
    return moves


def play_on(play, chance, many, crashes=True):
    """Does so many random moves; those that lead on are the likelier ones."""
    for _ in range(many):
        moves = moves_of(play, chance, crashes)
        if chance.randrange(4):
            moves = [move for move in moves if move[0] in ("post", "take", "carry")] or moves
        if moves:
            play.do(chance.choice(moves))


class Plain:
    """A party that knows nothing but the list of its records and what has happened since it was recovered."""

    def __init__(self, name, machine, records=()):
        self.name, self.machine = name, machine
        self.records = list(records)
        self.offered = {}
        self.withdrawing = False

    def deed(self, one):
        kind, other, label, _ = one
        return (self.name, other, label) if kind == "k" else (other, self.name, label)

    def state(self):
        return state_behind(self.machine, [self.deed(one) for one in self.records if one[0] in "kt"])

    def has(self, action):
        return action in dict(self.machine[1][self.state()])

    def posted(self, taker):
        return len([one for one in self.records if one[:2] == ("p", taker)])

    def settled(self, sender):
        found = [("gone", 0)] + [
            ("taken" if one[0] == "t" else "gone", one[3]) for one in self.records if one[0] in "tr" and one[1] == sender
        ]
        return found[-1]

    def waiting(self):
        found = [one for one in self.records if one[0] in "pkg"]
        return found[-1][1:] if found and found[-1][0] == "p" else None

    def is_possible(self, one):
        """Point 35: is the record possible?"""
        kind, other, label, number = one
        if kind in "kg":
            return self.waiting() == (other, label, number)
        if kind == "r":
            return label == "." and number > self.settled(other)[1]
        if self.waiting() or not self.has((self.name, other, label) if kind == "p" else (other, self.name, label)):
            return False
        return number == self.posted(other) + 1 if kind == "p" else number > self.settled(other)[1]

    def hear(self, message):
        """Point 32."""
        kind, sender, taker, number, *label = message
        if kind in ("taken", "gone"):
            if self.waiting() and (sender, taker, number) == (self.name, self.waiting()[0], self.waiting()[2]):
                self.records.append(("k" if kind == "taken" else "g", *self.waiting()))
                self.withdrawing = False
            return []
        if taker != self.name or number < self.settled(sender)[1]:
            return []
        if number == self.settled(sender)[1]:
            return [(self.settled(sender)[0], sender, taker, number)]
        if kind == "letter":
            if self.offered.get(sender, (0,))[0] < number:
                self.offered[sender] = (number, *label)
            return []
        self.records.append(("r", sender, ".", number))
        self.offered = {name: offer for name, offer in self.offered.items() if name != sender or offer[0] > number}
        return [("gone", sender, taker, number)]

    def do(self, act):
        """Point 31: the message of the act, None if it is not possible."""
        kind, *told_of = act
        waiting = self.waiting()
        if kind in ("withdraw", "again"):
            if not waiting:
                return None
            self.withdrawing = self.withdrawing or kind == "withdraw"
            taker, label, number = waiting
            return ("back", self.name, taker, number) if self.withdrawing else ("letter", self.name, taker, number, label)
        if kind == "post":
            taker, label = told_of
            if waiting or not self.has((self.name, taker, label)):
                return None
            self.records.append(("p", taker, label, self.posted(taker) + 1))
            return ("letter", self.name, taker, self.posted(taker), label)
        sender = told_of[0]
        number, label = self.offered.get(sender, (0, ""))
        if waiting or not self.has((sender, self.name, label)):
            return None
        self.records.append(("t", sender, label, number))
        del self.offered[sender]
        return ("taken", sender, self.name, number)

    def told(self):
        """Point 33, and what else a Party tells of itself."""
        row = dict(self.machine[1][self.state()])
        offers = {sender: label for sender, (_, label) in self.offered.items()}
        posts = [("post", taker, label) for sender, taker, label in row if sender == self.name]
        takes = [("take", sender) for sender in offers if (sender, self.name, offers[sender]) in row]
        waits = self.waiting()[:2] if self.waiting() else None
        rests = waits is None and self.machine[2][self.state()]
        journal = "".join(summed(*one) for one in self.records)
        return (self.state(), waits, offers, [] if waits else sorted(posts + takes), rests, journal)


def summed(kind, other, label, number):
    """Point 34: the text of a record."""
    total = 7
    for sign in f"{kind} {other} {label} {number} ":
        total = (total * 31 + ord(sign)) % 9973
    return f"{kind} {other} {label} {number} {total}\n"


def lines(*parts):
    """The journal of these records, each told as in "p b x 1"."""
    return "".join(summed(*part.split()[:3], int(part.split()[3])) for part in parts)


def random_machines(seed, many):
    """Machines of one party a, which sends to b and c and takes from them."""
    actions = [("a", "b", "x"), ("a", "b", "y"), ("a", "c", "x"), ("b", "a", "x"), ("b", "a", "y"), ("c", "a", "x")]
    return random_tables(seed, many, actions, 5)


def random_message(chance):
    """A message of small numbers, often one to or for a."""
    sender, taker = chance.choice([("a", "b"), ("a", "c"), ("b", "a"), ("b", "a"), ("c", "a"), ("b", "c"), ("c", "b")])
    number = chance.randrange(1, 5)
    kind = chance.choice(["letter", "letter", "back", "taken", "taken", "gone"])
    return (kind, sender, taker, number, chance.choice("xy")) if kind == "letter" else (kind, sender, taker, number)


def random_act(chance):
    """Something that a may do."""
    return chance.choice([("post", "b", "x"), ("post", "b", "y"), ("post", "c", "x"), ("post", "d", "x"), ("take", "b"),
                          ("take", "c"), ("take", "d"), ("withdraw",), ("again",)])


def chances(seed, many):
    """Sources of chance, the same for the same seed."""
    return [random.Random(f"{seed} {number}") for number in range(many)]
