"""Reads the text of a book into trees."""

from pactloom.errors import SourceError
from pactloom.naming import check_names
from pactloom.tokens import tokenize

MOST_PACTS = 10
MOST_PARTIES = 6
MOST_BRACES = 8
STEP_WORDS = ("choice", "both", "loop", "use")


def read_book(text):
    """Returns the book that a text tells: the list of its pacts."""
    reader = Reader(text)
    book = [reader.read_pact()]
    while not reader.is_behind_all():
        if len(book) == MOST_PACTS:
            reader.refuse()
        book.append(reader.read_pact())
    # Any fault of form comes ahead of all faults of names, wherever they stand.
    check_names(book)
    return book


class Reader:
    """Goes through the tokens of a text once, from left to right."""

    def __init__(self, text):
        # The last token stands for the end of the text, so that there always is one to look at.
        self.tokens = tokenize(text) + [("nothing", "", len(text))]
        self.place = 0
        self.braces = 0

    def refuse(self):
        """Raises the error that tells that the next token cannot stand where it stands."""
        raise SourceError(self.tokens[self.place][2])

    def is_behind_all(self):
        """Tells whether no token is left."""
        return self.place == len(self.tokens) - 1

    def next_is(self, kind, signs):
        """Tells whether the next token is of this kind and has these characters."""
        return self.tokens[self.place][:2] == (kind, signs)

    def passes(self, mark):
        """Passes over the next token if it is this mark; tells whether it was."""
        found = self.next_is("mark", mark)
        if found:
            self.place += 1
        return found

    def need(self, kind, signs):
        """Passes over the next token, which must be this one."""
        if not self.next_is(kind, signs):
            self.refuse()
        self.place += 1

    def read_name(self):
        """Returns the name that the next token must be."""
        kind, signs, _ = self.tokens[self.place]
        if kind != "name":
            self.refuse()
        self.place += 1
        return signs

    def read_pact(self):
        """Returns the tree of a pact."""
        self.need("word", "pact")
        name = self.read_name()
        parties = self.read_parties()
        body = self.read_body()
        self.need("word", "end")
        return ("pact", name, parties, body)

    def read_parties(self):
        """Returns the tuple of the parties that stand in round brackets."""
        self.need("mark", "(")
        parties = [self.read_name()]
        while self.passes(","):
            if len(parties) == MOST_PARTIES:
                self.refuse()
            parties.append(self.read_name())
        self.need("mark", ")")
        return tuple(parties)

    def read_body(self):
        """Returns the tuple of the steps that stand here, which may be none."""
        if not self.step_begins():
            return ()
        steps = [self.read_step()]
        while self.passes(";"):
            steps.append(self.read_step())
        return tuple(steps)

    def step_begins(self):
        """Tells whether the next token is one with which a step begins."""
        kind, signs, _ = self.tokens[self.place]
        return kind == "name" or signs in STEP_WORDS

    def read_step(self):
        """Returns the tree of a step."""
        if not self.step_begins():
            self.refuse()
        kind, signs, _ = self.tokens[self.place]
        if kind == "name":
            return self.read_letter()
        self.place += 1
        if signs == "use":
            return ("use", self.read_name(), self.read_parties())
        if signs == "loop":
            return ("loop", self.read_loop())
        return (signs, self.read_branches())

    def read_letter(self):
        """Returns the tree of a letter."""
        sender = self.read_name()
        self.need("mark", "->")
        taker = self.read_name()
        self.need("mark", ":")
        return ("letter", sender, taker, self.read_name())

    def read_loop(self):
        """Returns the body that stands in braces."""
        self.open_brace()
        body = self.read_body()
        self.close_brace()
        return body

    def read_branches(self):
        """Returns the tuple of the bodies that stand in braces."""
        self.open_brace()
        bodies = [self.read_body()]
        while self.passes("|"):
            bodies.append(self.read_body())
        self.close_brace()
        return tuple(bodies)

    def open_brace(self):
        """Passes over an opening brace, which must not be open inside too many others."""
        if self.braces == MOST_BRACES:
            self.refuse()
        self.need("mark", "{")
        self.braces += 1

    def close_brace(self):
        """Passes over the closing brace."""
        self.need("mark", "}")
        self.braces -= 1
