"""Bodies and books for the tests, made from a seed so that each run of the tests sees the same ones."""

import random

from pactloom.errors import TooLarge
from pactloom.tables import table_of

ACTIONS = [("a", "b", "x"), ("a", "b", "y"), ("b", "a", "x"), ("b", "c", "x"), ("c", "a", "z")]


def letter(text):
    """The letter that "a b x" tells."""
    return ("letter", *text.split())


def letters(*texts):
    """The body of the letters told."""
    return tuple(letter(text) for text in texts)


def choice(*bodies):
    """The body of one choice."""
    return (("choice", bodies),)


def both(*bodies):
    """The body of one both."""
    return (("both", bodies),)


def loop(body):
    """The body of one loop."""
    return (("loop", body),)


def act(text):
    """The action that "a b x" tells."""
    return tuple(text.split())


def acts(*texts):
    """The list of the actions told."""
    return [act(text) for text in texts]


def random_body(chance, depth, actions=ACTIONS, longest=3):
    """A body of a few steps; letters only where depth is 0."""
    return tuple(random_step(chance, depth, actions) for _ in range(chance.randrange(longest + 1)))


def random_step(chance, depth, actions=ACTIONS):
    """A letter or, where depth is above 0, perhaps a step with bodies."""
    kind = chance.choice(["letter", "letter", "choice", "both", "loop"])
    if kind == "letter" or depth == 0:
        return ("letter", *chance.choice(actions))
    if kind == "loop":
        return ("loop", random_body(chance, depth - 1, actions, 2))
    many = chance.randrange(1, 4)
    return (kind, tuple(random_body(chance, depth - 1, actions, 2) for _ in range(many)))


def random_bodies(seed, many, depth=2, actions=ACTIONS):
    """Many bodies, the same for the same seed."""
    chance = random.Random(seed)
    return [random_body(chance, depth, actions) for _ in range(many)]


def small_bodies(seed, many, depth=2, actions=ACTIONS, most=12):
    """Those of many bodies whose tables have few states."""
    small = []
    for body in random_bodies(seed, many, depth, actions):
        try:
            if len(table_of(body)[1]) <= most:
                small.append(body)
        except TooLarge:
            pass
    return small


def random_book(seed):
    """A book of several pacts that use one another."""
    chance = random.Random(seed)
    book = []
    for number in range(chance.randrange(1, 5)):
        parties = tuple(chance.sample(["a", "b", "c", "d", "e9"], chance.randrange(2, 5)))
        actions = [(*chance.sample(parties, 2), label) for label in ("x", "y", "pact1")]
        body = list(random_body(chance, 3, actions))
        for used in book:
            if len(used[2]) <= len(parties):
                body.append(("use", used[1], tuple(chance.sample(parties, len(used[2])))))
        chance.shuffle(body)
        book.append(("pact", f"p{number}", parties, tuple(body)))
    return book


def random_tables(seed, many, actions=ACTIONS, most=6):
    """Many tables that need not come from bodies, the same for the same seed."""
    chance = random.Random(seed)
    return [random_table(chance, chance.randrange(1, most + 1), actions) for _ in range(many)]


def random_table(chance, many, actions):
    """A table of at most so many states."""
    rows = [{} for _ in range(many)]
    for row in rows:
        for action in chance.sample(actions, chance.choice([0, 1, 1, 2, 2, 3])):
            row[action] = chance.randrange(many)
    ends = [chance.randrange(3) == 0 for _ in rows]
    return trimmed(rows, ends)


def trimmed(rows, ends):
    """The table of these rows, dicts from actions to states, without the states that lead to no end."""
    alive = set()
    for _ in rows:
        alive |= {at for at, row in enumerate(rows) if ends[at] or alive & set(row.values())}
    if 0 not in alive:
        return ("table", ((),), (True,))
    found = [0]
    new_rows = []
    for state in found:
        kept = [(action, rows[state][action]) for action in sorted(rows[state]) if rows[state][action] in alive]
        for _, target in kept:
            if target not in found:
                found.append(target)
        new_rows.append(tuple((action, found.index(target)) for action, target in kept))
    return ("table", tuple(new_rows), tuple(ends[state] for state in found))
