import copy
import itertools
import unittest

from oracle import everyone, look_alike, state_behind
from pactloom.auditing import audit
from pactloom.parties import Party
from pactloom.plays import play_of
from pactloom.slimming import slim
from players import accepted_tables, chances, lines, play_on, table_from
from samples import acts

ASK = table_from("loop {a -> b: ask; b -> a: say}")


def audited(**records):
    """The audit of the journals of these records."""
    return audit({party: lines(*parts) for party, parts in records.items()})


def run(*texts):
    """The audit that tells these actions."""
    return ("run", acts(*texts))


def parts_of(text):
    """The records of a text that has whole ones only and perhaps one that is cut."""
    parts = [line.split(" ") for line in text.split("\n")[:-1]]
    return [(kind, other, label, int(number)) for kind, other, label, number, _ in parts]


def told(journals):
    """Point 48 once more: any way to take letter after letter leads as far; then the least order."""
    records = {party: parts_of(text) for party, text in journals.items()}
    deeds = {}
    for party, parts in records.items():
        deeds[party], waiting = [], None
        for kind, other, label, number in parts:
            deeds[party] += [(other, party, label, number)] * (kind == "t") + [waiting] * (kind == "k" and waiting is not None)
            waiting = (party, other, label, number) if kind == "p" else None if kind in "kg" else waiting
        if waiting and any(("t", party, *waiting[2:]) == one for one in records.get(waiting[1], [])):
            deeds[party].append(waiting)
    taken = []
    while True:
        could = [
            mine[0] for mine, its in itertools.permutations(deeds.values(), 2)
            if mine and its and mine[0] == its[0] and mine is deeds[mine[0][0]]
        ]
        if not could:
            break
        letter = min(could)
        taken.append(letter[:3])
        del deeds[letter[0]][0], deeds[letter[1]][0]
    left = sorted(party for party in deeds if deeds[party])
    return ("unfit", left[0]) if left else ("run", taken)


class TestAudit(unittest.TestCase):
    def test_no_journals(self):
        self.assertEqual(audit({}), ("run", []))
        self.assertEqual(audit({"a": "", "b": ""}), ("run", []))

    def test_letters_that_were_taken(self):
        self.assertEqual(audited(a=["p b x 1", "k b x 1"], b=["t a x 1"]), run("a b x"))
        found = audited(a=["p b x 1", "k b x 1", "t b y 1"], b=["t a x 1", "p a y 1", "k a y 1"])
        self.assertEqual(found, run("a b x", "b a y"))

    def test_the_kinds_of_what_is_told(self):
        kind, actions = audited(a=["p b x 1", "k b x 1"], b=["t a x 1"])
        self.assertEqual((type(kind), type(actions), type(actions[0])), (str, list, tuple))

    def test_letters_that_are_gone(self):
        found = audited(a=["p b x 1", "g b x 1", "p b x 2", "k b x 2"], b=["r a . 1", "t a x 2"])
        self.assertEqual(found, run("a b x"))
        self.assertEqual(audited(a=["p b x 1", "g b x 1"], b=["r a . 1"]), run())

    def test_a_letter_that_waits_at_the_end(self):
        self.assertEqual(audited(a=["p b x 1"], b=["t a x 1"]), run("a b x"))
        self.assertEqual(audited(a=["p b x 1"], b=[]), run())
        self.assertEqual(audited(a=["p b x 1"], b=["r a . 1"]), run())
        self.assertEqual(audited(a=["p b x 1"]), run())
        self.assertEqual(audited(a=["p b x 1", "g b x 1", "p b x 2"], b=["r a . 1", "t a x 2"]), run("a b x"))
        self.assertEqual(audited(a=["p b x 1", "k b x 1", "p b x 2"], b=["t a x 1"]), run("a b x"))

    def test_a_letter_that_waits_is_told_by_all_four(self):
        for other in ["t a x 2", "t a y 1", "t c x 1"]:
            self.assertEqual(audited(a=["p b x 1"], b=[other]), ("unfit", "b"))
            self.assertEqual(audited(a=["p b x 1"], b=[other], c=["t a x 1"])[0], "unfit")
        self.assertEqual(audited(a=["p b x 1"], b=[], c=["t a x 1"]), ("unfit", "c"))
        # Its taker took it, wherever in the journal that stands.
        found = audited(a=["t b y 1", "p b x 1"], b=["p a y 1", "k a y 1", "t a x 1", "r a . 2"])
        self.assertEqual(found, run("b a y", "a b x"))

    def test_a_letter_that_waits_is_the_last_deed(self):
        found = audited(a=["p b x 1", "t c y 1"], b=["t a x 1"], c=["p a y 1", "k a y 1", "t b z 1"])
        self.assertEqual(found, ("unfit", "c"))
        found = audited(a=["p b x 1", "t c y 1"], b=["t a x 1"], c=["p a y 1", "k a y 1"])
        self.assertEqual(found, run("c a y", "a b x"))

    def test_a_k_or_g_record_without_a_waiting_letter(self):
        self.assertEqual(audited(a=["k b x 1"], b=[]), run())
        self.assertEqual(audited(a=["k b x 1"], b=["t a x 1"]), ("unfit", "b"))
        self.assertEqual(audited(a=["g b x 1"], b=[]), run())
        self.assertEqual(audited(a=["p b x 1", "k b x 1", "k b x 1"], b=["t a x 1"]), run("a b x"))
        self.assertEqual(audited(a=["p b x 1", "g b x 1", "k b x 1"], b=[]), run())
        self.assertEqual(audited(a=["p b x 1", "k b x 1", "g b x 1"], b=["t a x 1"]), run("a b x"))
        self.assertEqual(audited(a=["p b x 1", "g b x 1"], b=["t a x 1"]), ("unfit", "b"))
        self.assertEqual(audited(a=["p b x 1", "k b x 1"], b=[]), ("unfit", "a"))

    def test_a_k_or_g_record_of_another_letter(self):
        for other in ["k c x 1", "k b y 1", "k b x 2", "k . . 9"]:
            self.assertEqual(audited(a=["p b x 1", other], b=["t a x 1"]), run("a b x"))
            self.assertEqual(audited(a=["p b x 1", "g" + other[1:]], b=["t a x 1"]), ("unfit", "b"))

    def test_a_letter_in_place_of_one_that_waits(self):
        self.assertEqual(audited(a=["p b x 1", "p b y 2", "k b x 1"], b=["t a y 2"]), run("a b y"))
        self.assertEqual(audited(a=["p b x 1", "p b y 2"], b=["t a y 2"]), run("a b y"))
        self.assertEqual(audited(a=["p b x 1", "p b y 2"], b=["t a x 1"]), ("unfit", "b"))
        self.assertEqual(audited(a=["p b x 1", "p b y 2", "g b x 1"], b=["t a x 1"]), ("unfit", "b"))

    def test_other_records_are_passed_over(self):
        found = audited(a=["a . . 1", "n b . 4", "y b . 2", "w b x 4", "z . . 5", "p b x 5", "r b . 3", "k b x 5"],
                        b=["r a . 1", "t a x 5", "x a . 6"])
        self.assertEqual(found, run("a b x"))
        # What a summary tells of a waiting letter does not count.
        self.assertEqual(audited(a=["a . . 1", "n b . 4", "w b x 4", "z . . 4", "k b x 4"], b=[]), run())
        self.assertEqual(audited(a=["p b x 4", "w b y 4"], b=["t a x 4"]), run("a b x"))

    def test_letters_of_parties_without_a_journal(self):
        self.assertEqual(audited(a=["p b x 1", "k b x 1"]), ("unfit", "a"))
        self.assertEqual(audited(b=["t a x 1"]), ("unfit", "b"))
        self.assertEqual(audited(b=["t a x 1"], c=["t a x 1"]), ("unfit", "b"))

    def test_letters_that_differ(self):
        for one in ["t a y 1", "t a x 2", "t c x 1"]:
            self.assertEqual(audited(a=["p b x 1", "k b x 1"], b=[one]), ("unfit", "a"))
        self.assertEqual(audited(b=["p c x 1", "k c x 1"], c=["t b x 2"], a=[]), ("unfit", "b"))

    def test_deeds_in_another_order(self):
        a, b = ["p b x 1", "k b x 1", "t b y 1"], ["p a y 1", "k a y 1", "t a x 1"]
        self.assertEqual(audited(a=a, b=b), ("unfit", "a"))
        # b and c wait for one another, and a has done its part.
        found = audited(a=["p b z 1", "k b z 1"], b=["t a z 1", "t c x 1", "p c y 1"], c=["t b y 1", "p b x 1"])
        self.assertEqual(found, ("unfit", "b"))

    def test_the_first_party_that_has_a_deed_left(self):
        journals = {"d": lines("t b x 1"), "c": lines("t b x 1"), "a": lines("p b y 1", "k b y 1"), "b": lines("t a y 1")}
        self.assertEqual(audit(journals), ("unfit", "c"))
        self.assertEqual(audited(b=["t a x 1", "t a y 2"], a=["p b x 1", "k b x 1"]), ("unfit", "b"))

    def test_the_least_action_is_taken_first(self):
        found = audited(c=["p d x 1", "k d x 1"], d=["t c x 1"], a=["p b x 1", "k b x 1"], b=["t a x 1"])
        self.assertEqual(found, run("a b x", "c d x"))
        found = audited(d=["p a x 1", "k a x 1", "p c y 1", "k c y 1"], a=["t d x 1"], c=["p b x 1", "k b x 1", "t d y 1"],
                        b=["t c x 1"])
        self.assertEqual(found, run("c b x", "d a x", "d c y"))
        # The sender counts, then the taker, then the label; and the least is looked for anew each time.
        found = audited(a=["t d x 1", "p c x 1"], b=["t c x 1", "t d x 1"], c=["t a x 1", "p b x 1"],
                        d=["p a x 1", "k a x 1", "p b x 1"])
        self.assertEqual(found, run("d a x", "a c x", "c b x", "d b x"))

    def test_numbers_do_not_order(self):
        found = audited(a=["p b x 9", "k b x 9", "p b x 2", "k b x 2"], b=["t a x 9", "t a x 2"])
        self.assertEqual(found, run("a b x", "a b x"))
        found = audited(a=["p b x 9", "k b x 9", "p b x 2", "k b x 2"], b=["t a x 2", "t a x 9"])
        self.assertEqual(found, ("unfit", "a"))

    def test_a_journal_cut_within_a_record(self):
        a, b = lines("p b x 1", "k b x 1", "t b y 1"), lines("t a x 1", "p a y 1", "k a y 1")
        posted = len(lines("p b x 1"))
        answered = len(lines("p b x 1", "k b x 1"))
        for length in range(len(a) + 1):
            found = audit({"a": a[:length], "b": b})
            expected = ("unfit", "b")
            if length == len(a):
                expected = run("a b x", "b a y")
            self.assertEqual(found, expected)
            found = audit({"a": a[:length], "b": lines("t a x 1")})
            # Without the k record, the letter waits at the end, and b's journal tells that it was taken.
            left = ("unfit", "b") if length < posted else ("unfit", "a")
            self.assertEqual(found, run("a b x") if posted <= length < len(a) else left)
        for length in range(len(lines("t a x 1"))):
            self.assertEqual(audit({"a": a[:answered], "b": b[:length]}), ("unfit", "a"))
            self.assertEqual(audit({"a": a[:posted], "b": b[:length]}), run())

    def test_what_stands_behind_a_wrong_record_does_not_count(self):
        a = lines("p b x 1", "k b x 1")
        for torn in ["p b y 2 1\n", "?", " ", "\n", "p b y 2 ", lines("p b y 2")[:-1]]:
            self.assertEqual(audit({"a": a + torn, "b": lines("t a x 1")}), run("a b x"))
            self.assertEqual(audit({"a": a + torn + lines("p b y 2"), "b": lines("t a x 1", "t a y 2")}), ("unfit", "b"))

    def test_journals_stay_as_they_are(self):
        journals = {"b": lines("t a x 1"), "a": lines("p b x 1")}
        before = copy.deepcopy(journals)
        audit(journals)
        self.assertEqual(list(journals.items()), list(before.items()))

    def test_any_records(self):
        kinds = {}
        for chance in chances(121, 3000):
            journals = {}
            for party in chance.sample("abc", chance.randrange(1, 4)):
                others = [name for name in "abc" if name != party]
                parts = [
                    f"{chance.choice('pppkkgtttra')} {chance.choice(others)} {chance.choice('xy')} {chance.randrange(1, 3)}"
                    for _ in range(chance.randrange(6))
                ]
                journals[party] = lines(*parts)
            found = audit(journals)
            self.assertEqual(found, told(journals))
            kinds[found[0], found[1] if found[0] == "unfit" else len(found[1])] = journals
        self.assertGreater(len(kinds), 4)

    def test_journals_in_which_letters_were_taken(self):
        longest = 0
        for chance in chances(122, 1500):
            records = {party: [] for party in "abc"}
            for number in range(1, chance.randrange(2, 9)):
                sender, taker = chance.sample("abc", 2)
                label = chance.choice("xy")
                records[sender] += [f"p {taker} {label} {number}", f"{chance.choice('kkkg')} {taker} {label} {number}"]
                records[taker].append(f"t {sender} {label} {number}")
                if chance.randrange(20) == 0:
                    records[taker].reverse()
            journals = {party: lines(*parts) for party, parts in records.items()}
            found = audit(journals)
            self.assertEqual(found, told(journals))
            longest = max(longest, len(found[1]) if found[0] == "run" else 0)
        self.assertGreater(longest, 4)


class TestAuditsOfPlays(unittest.TestCase):
    def check_audit(self, table, play):
        """Point 49."""
        kind, actions = audit({name: play.journal(name) for name in play.names()})
        self.assertEqual(kind, "run")
        self.assertIsNotNone(state_behind(table, actions))
        for name in everyone(table):
            self.assertTrue(look_alike(actions, play.taken(), name))

    def test_at_any_moment(self):
        reordered = 0
        for table in accepted_tables(123, 40):
            for chance in chances(124, 4):
                play = play_of(table)
                for _ in range(70):
                    play_on(play, chance, 1)
                    self.check_audit(table, play)
                reordered += audit({name: play.journal(name) for name in play.names()})[1] != play.taken()
        self.assertGreater(reordered, 0)

    def test_a_letter_whose_answer_is_lost(self):
        play = play_of(ASK)
        for move in [("post", "a", "b", "ask"), ("carry", 0)]:
            play.do(move)
            self.check_audit(ASK, play)
        play.do(("take", "b", "a"))
        play.do(("lose", 0))
        play.do(("crash", "a"))
        self.assertEqual(audit({"a": play.journal("a"), "b": play.journal("b")}), run("a b ask"))

    def test_a_torn_take(self):
        whole = len(lines("t a ask 1"))
        for count in range(whole + 2):
            play = play_of(ASK)
            play.do(("post", "a", "b", "ask"))
            play.do(("carry", 0))
            play.do(("torn", ("take", "b", "a"), count))
            self.check_audit(ASK, play)
            self.assertEqual(len(play.taken()), count >= whole)

    def test_a_summary_hides_what_it_tells(self):
        party = Party("a", table_from("a -> b: x; a -> b: y"))
        party.post("b", "x")
        self.assertEqual(audit({"a": party.journal(), "b": lines("t a x 1")}), run("a b x"))
        self.assertEqual(audit({"a": slim(party), "b": lines("t a x 1")}), ("unfit", "b"))
        self.assertEqual(audit({"a": slim(party) + lines("k b x 1", "p b y 2"), "b": lines("t a y 2")}), run("a b y"))


if __name__ == "__main__":
    unittest.main()
