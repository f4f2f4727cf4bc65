"""Links a pact: puts the steps of the pacts that it uses in place of the uses."""

from pactloom.errors import TooLarge, UnknownName

MOST_LETTERS = 200
MOST_STEPS = 1000


def link(book, name):
    """Returns the body of the pact of this name, without uses."""
    linker = Linker(book)
    return linker.link_pact(name, linker.parties_of_pact(name))


class Linker:
    """Counts the steps and letters that linking goes through."""

    def __init__(self, book):
        self.pacts = {pact[1]: pact for pact in book}
        self.steps = 0
        self.letters = 0

    def parties_of_pact(self, name):
        """Returns the parties of the pact of this name."""
        if name not in self.pacts:
            raise UnknownName(name)
        return self.pacts[name][2]

    def link_pact(self, name, given):
        """Returns the linked body of a pact, with the given parties in place of its own."""
        own = self.parties_of_pact(name)
        return self.link_body(self.pacts[name][3], dict(zip(own, given)))

    def link_body(self, body, renamed):
        """Returns the linked body; renamed tells the party that stands in place of each."""
        linked = []
        for step in body:
            linked.extend(self.link_step(step, renamed))
        return tuple(linked)

    def link_step(self, step, renamed):
        """Returns the tuple of the steps that stand in place of a step."""
        self.count_step(step)
        if step[0] == "letter":
            _, sender, taker, label = step
            return (("letter", renamed[sender], renamed[taker], label),)
        if step[0] == "use":
            return self.link_pact(step[1], [renamed[party] for party in step[2]])
        if step[0] == "loop":
            return (("loop", self.link_body(step[1], renamed)),)
        return ((step[0], tuple([self.link_body(body, renamed) for body in step[1]])),)

    def count_step(self, step):
        """Counts a step, and refuses it as soon as it is one too many."""
        self.steps += 1
        if step[0] == "letter":
            self.letters += 1
        if self.steps > MOST_STEPS or self.letters > MOST_LETTERS:
            raise TooLarge()
