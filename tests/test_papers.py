import copy
import re
import unittest

from pactloom.checking import check, unready
from pactloom.conducting import conduct
from pactloom.errors import PactError, PaperError
from pactloom.judging import judge
from pactloom.papers import read_paper, write_paper
from players import chances
from samples import act, acts
from test_checking import small_tables

NAME = "[a-z][a-z0-9]{0,11}"
ACTION = rf"(?!({NAME}) -> \1:){NAME} -> {NAME}: {NAME}(\.{NAME})?"
X, Y = act("a b x"), act("b c y.a")
STRAY = ("stray", [X, X], Y, [Y], [])
IDLE = ("idle", [X], [("a", []), ("b", [X, Y]), ("b1", [Y])])
UNREADY = ("unready", [], X, [Y, X])
PAPERS = {
    "fine": "fine\n",
    "stray": "stray\nrun\n  a -> b: x\n  a -> b: x\naction b -> c: y.a\nfirst\n  b -> c: y.a\nsecond\n",
    "idle": "idle\nrun\n  a -> b: x\nseen by a\nseen by b\n  a -> b: x\n  b -> c: y.a\nseen by b1\n  b -> c: y.a\n",
    "unready": "unready\nrun\naction a -> b: x\nother\n  b -> c: y.a\n  a -> b: x\n",
}
CERTIFICATES = dict(zip(PAPERS.values(), [("fine",), STRAY, IDLE, UNREADY]))


def fault_of(text):
    """The line of the error that reading raises, None if it raises none."""
    try:
        read_paper(text)
    except PaperError as error:
        assert type(error.line) is int
        return error.line
    return None


def told(text):
    """Point 53 once more: the line at which the text leaves what papers look like, None if it is one.

    Each state tells what kinds of lines may stand next; "" is the end of the text.
    """
    after = {"start": {"fine": "over", "stray": "stray", "idle": "idle", "unready": "unready"}}
    for kind in ("stray", "unready"):
        titles = {"stray": ["first", "second"], "unready": ["other"]}[kind]
        after[kind] = {"run": kind + " run"}
        after[kind + " run"] = {"  " + ACTION: kind + " run", "action " + ACTION: kind + " " + titles[0]}
        for at, title in enumerate(titles):
            after[f"{kind} {title}"] = {title: f"{kind} in {title}"}
            more = {titles[at + 1]: f"{kind} in {titles[at + 1]}"} if title != titles[-1] else {"": "over"}
            after[f"{kind} in {title}"] = {"  " + ACTION: f"{kind} in {title}", **more}
    after["idle"] = {"run": "seen"}
    after["seen"] = {"  " + ACTION: "seen", "seen by " + NAME: "seen", "": "over"}
    after["over"] = {"": "over"}
    state, seer = "start", ""
    lines = re.findall("[^\n]*\n|[^\n]+", text)
    for number, line in enumerate(lines, 1):
        found = [to for form, to in after[state].items() if form and re.fullmatch(form + "\n", line)]
        if not found or (line.startswith("seen") and line[8:-1] <= seer):
            return number
        state, seer = found[0], line[8:-1] if line.startswith("seen") else seer
    return None if "" in after[state] else len(lines) + 1


class TestWriting(unittest.TestCase):
    def test_all_kinds(self):
        for text, certificate in CERTIFICATES.items():
            before = copy.deepcopy(certificate)
            self.assertEqual(write_paper(certificate), text)
            self.assertEqual(certificate, before)

    def test_empty_runs(self):
        self.assertEqual(write_paper(("stray", [], X, [], [])), "stray\nrun\naction a -> b: x\nfirst\nsecond\n")
        self.assertEqual(write_paper(("unready", [], X, [])), "unready\nrun\naction a -> b: x\nother\n")
        self.assertEqual(write_paper(("idle", [], [])), "idle\nrun\n")
        self.assertEqual(write_paper(("idle", [], [("a", [])])), "idle\nrun\nseen by a\n")


class TestReading(unittest.TestCase):
    def test_all_kinds(self):
        for text, certificate in CERTIFICATES.items():
            self.assertEqual(read_paper(text), certificate)
            self.assertIsNone(told(text))

    def test_the_kinds_of_what_is_read(self):
        kind, run, action, first, second = read_paper(PAPERS["stray"])
        self.assertEqual([type(part) for part in (kind, run, action, first, second)], [str, list, tuple, list, list])
        self.assertIsNot(first, second)
        kind, run, others = read_paper(PAPERS["idle"])
        self.assertEqual([type(part) for part in (run, others, others[0], others[0][1])], [list, list, tuple, list])
        self.assertEqual(type(read_paper(PAPERS["unready"])), tuple)

    def test_certificates_are_read_back_and_hold(self):
        kinds = set()
        for table in small_tables(151, 100):
            for certificate in [check(table), unready(table), check(conduct(table, "k"))]:
                if certificate is not None:
                    found = read_paper(write_paper(certificate))
                    self.assertEqual(found, certificate)
                    self.assertIs(judge(table, found), judge(table, certificate))
                    kinds.add(found[0])
        self.assertEqual(kinds, {"fine", "stray", "idle", "unready"})

    def test_random_certificates_are_read_back(self):
        actions = acts("a b x", "b a x", "end loop use", "a b x.y", "z9 k pact.end", "abcdefghijkl a abcdefghijkl.abcdefghijkl")
        for chance in chances(152, 300):
            runs = [chance.choices(actions, k=chance.randrange(4)) for _ in range(8)]
            names = sorted(chance.sample(["a", "b", "b1", "end", "loop", "z"], chance.randrange(6)))
            for certificate in [("stray", runs[0], chance.choice(actions), *runs[1:3]),
                                ("unready", runs[0], chance.choice(actions), runs[1]), ("idle", runs[0], list(zip(names, runs)))]:
                text = write_paper(certificate)
                self.assertEqual(read_paper(text), certificate)
                self.assertIsNone(told(text))

    def test_the_empty_text(self):
        self.assertEqual(fault_of(""), 1)
        self.assertEqual(fault_of("\n"), 1)
        self.assertEqual(fault_of("\nfine\n"), 1)

    def test_another_kind(self):
        for kind in ["", "Fine", "fine ", " fine", "good", "run", "strays", "stray ", "  a -> b: x", "seen by a", "fine\r",
                     "stray run", "action a -> b: x", "first", "other", "fine.", "un"]:
            self.assertEqual(fault_of(kind + "\n"), 1, kind)
            self.assertEqual(fault_of(kind + "\nrun\n"), 1, kind)

    def test_the_last_newline(self):
        for text in CERTIFICATES:
            lines = text.splitlines()
            for many in range(1, len(lines) + 1):
                self.assertEqual(fault_of("\n".join(lines[:many])), many)
                for cut in range(1, len(lines[many - 1])):
                    self.assertEqual(fault_of("\n".join(lines[:many])[:-cut]), many)

    def test_a_line_too_many(self):
        for text in CERTIFICATES:
            many = len(text.splitlines())
            for line in ["", " ", "x", "fine", "run", "stray", "first", "second", "other", "action a -> b: x", "end"]:
                self.assertEqual(fault_of(text + line + "\n"), many + 1, text + line)
            self.assertEqual(fault_of(text + "x"), many + 1)
            self.assertEqual(fault_of(text + " "), many + 1)
            self.assertEqual(fault_of(text + "\n\n"), many + 1)
            self.assertEqual(fault_of(text + text), many + 1)
        self.assertEqual(fault_of("fine\n  a -> b: x\n"), 2)
        self.assertEqual(fault_of("fine\nseen by a\n"), 2)

    def test_a_text_that_ends_too_early(self):
        for text in (PAPERS["stray"], PAPERS["unready"]):
            lines = text.splitlines(True)
            # Only the actions of the last run may be missing.
            last = [at for at, line in enumerate(lines) if not line.startswith(" ")][-1]
            for many in range(len(lines) + 1):
                expected = many + 1 if many <= last else None
                self.assertEqual(fault_of("".join(lines[:many])), expected)
        self.assertEqual(fault_of("idle\n"), 2)
        self.assertIsNone(fault_of("idle\nrun\n"))

    def test_an_idle_one_without_seers(self):
        self.assertEqual(read_paper("idle\nrun\n"), ("idle", [], []))
        self.assertEqual(read_paper("idle\nrun\n  a -> b: x\n"), ("idle", [X], []))

    def test_seers_out_of_order(self):
        for one, other in [("a", "a"), ("b", "a"), ("b", "a9"), ("aa", "a"), ("end", "choice")]:
            self.assertEqual(fault_of(f"idle\nrun\nseen by {one}\nseen by {other}\n"), 4)
            text = f"idle\nrun\n  a -> b: x\nseen by {one}\n  a -> b: x\nseen by {other}\n  a -> b: x\nseen by z\n"
            self.assertEqual(fault_of(text), 6)
            if one != other:
                self.assertIsNone(fault_of(f"idle\nrun\nseen by {other}\nseen by {one}\n"))
        self.assertEqual(fault_of("idle\nrun\nseen by a\nseen by c\nseen by b\n"), 5)
        self.assertEqual(fault_of("idle\nrun\nseen by a\nseen by c\nseen by a\n"), 5)

    def test_the_form_of_a_seer(self):
        for line in ["seen by", "seen by ", "seen by  a", "seen by a ", "seen by A", "seen by 9", "seen by a.b", "seen by a b",
                     " seen by a", "seen  by a", "Seen by a", "seen by a:", "seen by abcdefghijklm", "seen for a", "a",
                     "seen by \u00e9", "seen by a\u00b2", "seen by a\r", "seen by seen by a"]:
            self.assertEqual(fault_of(f"idle\nrun\n{line}\n"), 3, line)
            self.assertEqual(fault_of(f"idle\nrun\nseen by a\n{line}\n"), 4, line)
        for name in ["a", "z9", "abcdefghijkl", "end", "pact", "by", "seen"]:
            self.assertEqual(read_paper(f"idle\nrun\nseen by {name}\n"), ("idle", [], [(name, [])]))

    def test_titles_that_cannot_stand(self):
        for kind, titles in [("stray", ["run", "first", "second"]), ("unready", ["run", "other"]), ("idle", ["run"])]:
            lines = PAPERS[kind].splitlines(True)
            for title in titles:
                at = lines.index(title + "\n")
                for bad in ["", "run ", " " + title, title + ":", title.upper(), title + " ", "x", title + " a -> b: x"]:
                    text = "".join(lines[:at] + [bad + "\n"] + lines[at + 1:])
                    self.assertEqual(fault_of(text), at + 1, text)
                self.assertEqual(fault_of("".join(lines[:at] + lines[at + 1:])), at + 1)
                self.assertEqual(fault_of("".join(lines[:at + 1] + lines[at:])), at + 2)

    def test_titles_of_other_kinds(self):
        self.assertEqual(fault_of(PAPERS["stray"].replace("first", "other")), 6)
        self.assertEqual(fault_of(PAPERS["stray"].replace("stray", "unready")), 6)
        self.assertEqual(fault_of(PAPERS["unready"].replace("unready", "stray")), 4)
        self.assertEqual(fault_of(PAPERS["unready"].replace("unready", "idle")), 3)
        self.assertEqual(fault_of(PAPERS["idle"].replace("idle", "stray")), 4)
        self.assertEqual(fault_of(PAPERS["stray"].replace("first", "second")), 6)

    def test_the_action_of_a_certificate(self):
        for bad in ["action", "action ", "action a -> a: x", "action  a -> b: x", "a -> b: x", " action a -> b: x",
                    "Action a -> b: x", "action a -> b: x ", "action a -> b", "action: a -> b: x", "actiona -> b: x"]:
            self.assertEqual(fault_of(f"unready\nrun\n{bad}\nother\n"), 3, bad)
            self.assertEqual(fault_of(f"stray\nrun\n  a -> b: x\n{bad}\nfirst\nsecond\n"), 4, bad)
        self.assertEqual(fault_of("unready\nrun\naction a -> b: x\naction a -> b: x\nother\n"), 4)

    def test_the_form_of_an_action(self):
        for bad in ["a -> b: x", " a -> b: x", "   a -> b: x", "\ta -> b: x", "  a-> b: x", "  a ->b: x", "  a -> b : x",
                    "  a -> b:x", "  a -> b:  x", "  a -> b: x ", "  a -> b:", "  a -> b: ", "  a -> b", "  a => b: x",
                    "  a -> b:: x", "  a -> b: x;", "  a -> b: x goto 0", "  ", "", "  -> b: x", "  a b: x", "  a -> : x",
                    "  a  -> b: x", "  a -> b: x\r", "  a -> b -> c: x", "  A -> b: x", "  a -> B: x", "  a -> b: X",
                    "  9 -> b: x", "  a -> 9: x", "  a -> b: 9", "  a -> a: x", "  end -> end: x", "  a.b -> c: x",
                    "  a -> b.c: x", "  a -> b: x.y.z", "  a -> b: x.", "  a -> b: .x", "  a -> b: .", "  a -> b: x..y",
                    "  a -> b: x. y", "  abcdefghijklm -> b: x", "  a -> abcdefghijklm: x", "  a -> b: abcdefghijklm",
                    "  a -> b: x.abcdefghijklm", "  a\u00b2 -> b: x", "  a -> b: \u00e9", "  a -> b: x.9"]:
            self.assertEqual(fault_of(f"idle\nrun\n{bad}\n"), 3, bad)
            self.assertEqual(fault_of(f"idle\nrun\n  b -> a: x\n{bad}\nseen by a\n"), 4, bad)
            self.assertEqual(fault_of(f"unready\nrun\naction a -> b: x\nother\n{bad}\n"), 5, bad)

    def test_words_and_dots(self):
        for text, action in [("end -> pact: use", ("end", "pact", "use")), ("a -> b: x.y", ("a", "b", "x.y")),
                             ("run -> first: action", ("run", "first", "action")), ("a -> b: end.loop", ("a", "b", "end.loop")),
                             ("a1 -> abcdefghijkl: z.z", ("a1", "abcdefghijkl", "z.z"))]:
            self.assertEqual(read_paper(f"unready\nrun\n  {text}\naction {text}\nother\n"), ("unready", [action], action, []))

    def test_other_ends_of_lines(self):
        self.assertEqual(fault_of("fine\r\n"), 1)
        for sign in ["\r", "\x0b", "\x0c", "\x1c", "\x85", "\u2028"]:
            self.assertEqual(fault_of(f"idle{sign}run\n"), 1)
            self.assertEqual(fault_of(f"idle\nrun{sign}seen by a\n"), 2)

    def test_the_error(self):
        with self.assertRaises(PactError) as caught:
            read_paper("idle\nrun\nx\n")
        self.assertIs(type(caught.exception), PaperError)
        self.assertEqual(caught.exception.line, 3)

    def test_changed_texts(self):
        faults, whole = set(), 0
        for text in CERTIFICATES:
            for chance in chances(153, 1500):
                lines = text.splitlines(True)
                at = chance.randrange(len(lines))
                kind = chance.randrange(4)
                if kind == 0:
                    del lines[at]
                elif kind == 1:
                    other = chance.choice(list(CERTIFICATES)).splitlines(True)
                    lines.insert(chance.randrange(len(lines) + 1), chance.choice(other))
                elif kind == 2:
                    lines[at], lines[-1] = lines[-1], lines[at]
                new = "".join(lines)
                if kind == 3:
                    at = chance.randrange(len(new) + 1)
                    new = new[:at] + chance.choice(["", *"\n .:abx01"]) + new[at + chance.randrange(2):]
                self.assertEqual(fault_of(new), told(new), new)
                faults.add(told(new))
                if told(new) is None:
                    self.assertEqual(write_paper(read_paper(new)), new)
                    whole += new != text
        self.assertGreater(whole, 100)
        self.assertGreater(len(faults), 9)


if __name__ == "__main__":
    unittest.main()
