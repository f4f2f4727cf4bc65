"""Writes certificates as texts, and reads them again."""

from pactloom.errors import PaperError
from pactloom.lines import action_of, is_name, lines_of, print_action, text_of

# The titles of the runs behind the action of a certificate.
TITLES = {"stray": ("first", "second"), "unready": ("other",)}
SEEN_BY = "seen by "


def write_paper(certificate):
    """Returns the text of a certificate."""
    kind = certificate[0]
    lines = [kind]
    if kind != "fine":
        lines.extend(_lines_of_run("run", certificate[1]))
    if kind in TITLES:
        lines.append("action " + print_action(certificate[2]))
        for title, run in zip(TITLES[kind], certificate[3:]):
            lines.extend(_lines_of_run(title, run))
    if kind == "idle":
        for party, run in certificate[2]:
            lines.extend(_lines_of_run(SEEN_BY + party, run))
    return text_of(lines)


def _lines_of_run(title, run):
    return [title] + ["  " + print_action(action) for action in run]


def read_paper(text):
    """Returns the certificate that a text tells."""
    reader = PaperReader(text)
    certificate = reader.read_certificate()
    reader.need_end()
    return certificate


class PaperReader:
    """Goes through the lines of a text once."""

    def __init__(self, text):
        lines, rest = lines_of(text)
        # The last one stands for the end of the text, or for a line without its newline: nothing fits there.
        self.lines = lines + [""]
        self.is_whole = rest == ""
        self.place = 0

    def refuse(self):
        """Raises the error that tells that the next line cannot stand where it stands."""
        raise PaperError(self.place + 1)

    def need(self, line):
        """Passes over the next line, which must be this one."""
        if self.lines[self.place] != line:
            self.refuse()
        self.place += 1

    def need_end(self):
        """Makes sure that nothing is left."""
        if self.place < len(self.lines) - 1 or not self.is_whole:
            self.refuse()

    def read_certificate(self):
        """Returns the certificate with which the text begins."""
        kind = self.lines[self.place]
        if kind == "fine":
            self.place += 1
            return ("fine",)
        if kind != "idle" and kind not in TITLES:
            self.refuse()
        self.place += 1
        run = self.read_run("run")
        if kind == "idle":
            return ("idle", run, self.read_others())
        action = self.read_action()
        others = [self.read_run(title) for title in TITLES[kind]]
        return (kind, run, action, *others)

    def read_action(self):
        """Returns the action of the certificate."""
        action = self.next_action("action ")
        if action is None:
            self.refuse()
        self.place += 1
        return action

    def read_run(self, title):
        """Returns the run with this title."""
        self.need(title)
        run = []
        action = self.next_action("  ")
        while action is not None:
            run.append(action)
            self.place += 1
            action = self.next_action("  ")
        return run

    def read_others(self):
        """Returns the pairs of a party and its run, as far as the parties ascend."""
        others = []
        party = self.next_seer()
        while party is not None and (not others or others[-1][0] < party):
            others.append((party, self.read_run(SEEN_BY + party)))
            party = self.next_seer()
        return others

    def next_action(self, ahead):
        """Returns the action that the next line tells behind these characters, None if it tells none."""
        line = self.lines[self.place]
        if not line.startswith(ahead):
            return None
        return action_of(line.removeprefix(ahead))

    def next_seer(self):
        """Returns the party of whose run the next line is the title, None if it is no such title."""
        line = self.lines[self.place]
        party = line.removeprefix(SEEN_BY)
        if not line.startswith(SEEN_BY) or not is_name(party):
            return None
        return party
