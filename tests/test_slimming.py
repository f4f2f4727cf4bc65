import copy
import random
import unittest

from pactloom.errors import NotPossible
from pactloom.journals import read_records
from pactloom.parties import Party, recover
from pactloom.slimming import recover_slots, slim
from pactloom.views import machine_of
from players import Plain, chances, lines, random_act, random_machines, random_message, table_from, told

TABLE = table_from("loop {choice {b -> a: x; a -> b: y | b -> c: x; c -> b: y | a -> b: x | a -> b: z | c -> b: x; b -> a: z}}")
MACHINE = machine_of(TABLE, "b")


def summary_of(plain):
    """Point 50, told of a plain party."""
    parts = [f"a . . {plain.state() + 1}"]
    others = sorted({one[1] for one in plain.records})
    parts += [f"n {other} . {plain.posted(other)}" for other in others if plain.posted(other)]
    for other in others:
        kind, number = plain.settled(other)
        if number:
            parts.append(f"{'y' if kind == 'taken' else 'x'} {other} . {number}")
    if plain.waiting():
        parts.append("w {} {} {}".format(*plain.waiting()))
    return lines(*parts, f"z . . {len(parts) + 1}")


def without_journal(party):
    """All that a party tells of itself but its journal."""
    return told(party)[:-1]


def acted(chance, machine, many):
    """A party and a plain one that did many things."""
    party, plain = Party("a", machine), Plain("a", machine)
    for _ in range(many):
        if chance.randrange(2):
            message = random_message(chance)
            party.hear(message)
            plain.hear(message)
        else:
            act = random_act(chance)
            if plain.do(act) is not None:
                getattr(party, act[0])(*act[1:])
    return party, plain


class TestSummaries(unittest.TestCase):
    def test_a_start(self):
        self.assertEqual(slim(Party("b", MACHINE)), lines("a . . 1", "z . . 2"))
        self.assertEqual(slim(Party("b", ("table", ((),), (True,)))), lines("a . . 1", "z . . 2"))

    def test_all_kinds_of_records(self):
        party = recover("b", MACHINE, lines(
            "p c x 1", "g c x 1", "p a x 1", "g a x 1", "p a x 2", "g a x 2", "t c x 5", "r a . 4", "p a z 3", "k a z 3",
            "p c x 2"
        ))
        self.assertEqual(party.at(), 0)
        self.assertEqual(slim(party), lines("a . . 1", "n a . 3", "n c . 2", "x a . 4", "y c . 5", "w c x 2", "z . . 7"))

    def test_another_state(self):
        party = recover("b", MACHINE, lines("t c x 1"))
        self.assertGreater(party.at(), 0)
        self.assertEqual(slim(party), lines(f"a . . {party.at() + 1}", "y c . 1", "z . . 3"))

    def test_parties_ascend(self):
        actions = [("b", name, "x") for name in ["a", "c9", "c", "d"]] + [(name, "b", "x") for name in ["c", "a", "e"]]
        machine = ("table", (tuple(sorted((action, 0) for action in actions)),), (True,))
        party = Party("b", machine)
        for name in ["d", "c9", "a", "c"]:
            party.post(name, "x")
            party.hear(("gone", "b", name, 1))
        for name in ["e", "a", "c"]:
            party.hear(("letter", name, "b", 2, "x"))
        party.take("e")
        party.hear(("back", "c", "b", 3))
        party.take("a")
        self.assertEqual(slim(party), lines("a . . 1", "n a . 1", "n c . 1", "n c9 . 1", "n d . 1", "y a . 2", "x c . 3",
                                            "y e . 2", "z . . 9"))

    def test_what_is_settled_newest(self):
        party = recover("b", MACHINE, lines("t a x 1", "r a . 2"))
        self.assertEqual(slim(party), lines("a . . 1", "x a . 2", "z . . 3"))
        party = recover("b", MACHINE, lines("r a . 2", "t a x 7"))
        self.assertEqual(slim(party), lines("a . . 1", "y a . 7", "z . . 3"))

    def test_offers_and_withdrawing_are_not_told(self):
        party = Party("b", MACHINE)
        party.hear(("letter", "a", "b", 1, "x"))
        self.assertEqual(slim(party), lines("a . . 1", "z . . 2"))
        party.post("a", "x")
        party.withdraw()
        self.assertEqual(slim(party), lines("a . . 1", "n a . 1", "w a x 1", "z . . 4"))
        self.assertEqual(recover("b", MACHINE, slim(party)).again(), ("letter", "b", "a", 1, "x"))

    def test_conducted_labels(self):
        party = Party("b", ("table", (((("b", "k", "x.a"), 0),),), (True,)))
        party.post("k", "x.a")
        self.assertEqual(slim(party), lines("a . . 1", "n k . 1", "w k x.a 1", "z . . 4"))
        self.assertEqual(recover("b", party.machine, slim(party)).waits(), ("k", "x.a"))

    def test_a_party_stays_as_it_is(self):
        party = recover("b", MACHINE, lines("t c x 1", "p a z 1"))
        before, summary = copy.deepcopy(told(party)), slim(party)
        self.assertEqual(told(party), before)
        self.assertEqual(slim(party), summary)

    def test_all_summaries(self):
        kinds = set()
        for number, machine in enumerate(random_machines(131, 150)):
            for chance in chances(number, 4):
                party, plain = acted(chance, machine, chance.randrange(25))
                self.assertEqual(slim(party), summary_of(plain))
                kinds |= {one[0] for one in read_records(slim(party))}
        self.assertEqual(kinds, set("anyxwz"))


class TestRecoveringFromSummaries(unittest.TestCase):
    def test_a_recovered_party_is_as_the_one_that_was_slimmed(self):
        for number, machine in enumerate(random_machines(132, 150)):
            for chance in chances(number, 4):
                party, _ = acted(chance, machine, 25)
                plain = recover("a", machine, party.journal())
                slimmed = recover("a", machine, slim(party))
                self.assertEqual(slimmed.journal(), slim(party))
                self.assertEqual(slim(slimmed), slim(party))
                for _ in range(25):
                    self.assertEqual(without_journal(slimmed), without_journal(plain))
                    self.act_both(chance, slimmed, plain)
                if slimmed.journal() != slim(party):
                    self.assertEqual(slimmed.journal()[len(slim(party)):], plain.journal()[len(party.journal()):])
                again = recover("a", machine, slimmed.journal())
                self.assertEqual(told(again), told(recover("a", machine, again.journal())))
                self.assertEqual(without_journal(again), without_journal(recover("a", machine, plain.journal())))

    def act_both(self, chance, one, other):
        """Lets two parties do the same, with the same result."""
        if chance.randrange(2):
            message = random_message(chance)
            self.assertEqual(one.hear(message), other.hear(message))
            return
        act = random_act(chance)
        told_of = []
        for party in (one, other):
            try:
                told_of.append(getattr(party, act[0])(*act[1:]))
            except NotPossible:
                told_of.append(None)
        self.assertEqual(*told_of)

    def test_a_summary_behind_records_counts_for_nothing(self):
        party = recover("b", MACHINE, lines("t a x 1") + slim(Party("b", MACHINE)))
        self.assertEqual(party.journal(), lines("t a x 1"))

    def test_a_second_summary_behind_the_first_counts_for_nothing(self):
        summary = slim(recover("b", MACHINE, lines("t a x 1")))
        self.assertEqual(recover("b", MACHINE, summary + summary).journal(), summary)


class TestSlots(unittest.TestCase):
    OLD = lines("t a x 1", "p c x 1", "k c x 1", "t c y 1", "p a x 1")
    BEHIND = lines("g a x 1", "t a x 2")

    def party(self):
        return recover("b", MACHINE, self.OLD)

    def test_the_party_is_what_the_tests_suppose(self):
        self.assertEqual(self.party().journal(), self.OLD)
        self.assertEqual(recover("b", MACHINE, self.OLD + self.BEHIND).journal(), self.OLD + self.BEHIND)

    def test_a_crash_at_each_place_of_writing_a_summary_loses_nothing(self):
        summary = slim(self.party())
        for length in range(len(summary)):
            party = recover_slots("b", MACHINE, self.OLD, summary[:length])
            self.assertEqual(told(party), told(self.party()))
        party = recover_slots("b", MACHINE, self.OLD, summary)
        self.assertEqual(party.journal(), summary)
        self.assertEqual(without_journal(party), without_journal(self.party()))
        self.assertEqual(party.again(), ("letter", "b", "a", 1, "x"))

    def test_records_behind_the_summary_of_new(self):
        summary = slim(self.party())
        for length in range(len(self.BEHIND) + 1):
            party = recover_slots("b", MACHINE, self.OLD, summary + self.BEHIND[:length])
            self.assertEqual(told(party), told(recover("b", MACHINE, summary + self.BEHIND[:length])))
            self.assertTrue(party.journal().startswith(summary))
        self.assertEqual(party.journal(), summary + self.BEHIND)
        self.assertEqual(recover_slots("b", MACHINE, self.OLD, summary + lines("p a x 2") + self.BEHIND).journal(), summary)

    def test_new_has_records_and_no_summary(self):
        for new in [self.OLD + self.BEHIND, lines("t c x 3"), lines("z . . 1"), lines("n a . 1", "z . . 2"), "", "?"]:
            self.assertEqual(told(recover_slots("b", MACHINE, self.OLD, new)), told(self.party()))

    def test_a_summary_of_new_that_does_not_fit(self):
        many = len(MACHINE[1])
        for new in [
            lines(f"a . . {many + 1}", "z . . 2"), lines("a . . 1", "z . . 3"), lines("a . . 1", "z . . 1"),
            lines("a . . 1", "n c . 1", "n a . 1", "z . . 4"), lines("a . . 1", "y c . 1", "x a . 1", "z . . 4"),
            lines("a . . 1", "w a x 1", "z . . 3"), lines("a . . 1", "n a . 1", "w a y 1", "z . . 4"),
            lines("a . . 1", "n a . 2", "w a x 1", "z . . 4"), lines("a . . 1", "x a . 1", "n a . 1", "z . . 4"),
            lines("a . . 1", "z . . 2")[:-1], lines("a . . 1"), "?" + lines("a . . 1", "z . . 2"),
            lines("a . . 1", "t a x 1", "z . . 3"), lines("t a x 1", "a . . 1", "z . . 2"),
        ]:
            self.assertEqual(told(recover_slots("b", MACHINE, self.OLD, new)), told(self.party()), new)

    def test_a_summary_belongs_to_a_machine(self):
        new = lines("a . . 2", "z . . 2")
        self.assertEqual(recover_slots("b", MACHINE, self.OLD, new).at(), 1)
        small = ("table", (((("b", "a", "x"), 0),),), (True,))
        self.assertEqual(recover_slots("b", small, lines("p a x 1"), new).journal(), lines("p a x 1"))
        new = lines("a . . 1", "n a . 1", "w a x 1", "z . . 4")
        self.assertEqual(recover_slots("b", small, "", new).waits(), ("a", "x"))
        self.assertEqual(recover_slots("a", small, "", new).waits(), None)

    def test_old_may_be_a_summary_too(self):
        old = lines("a . . 1", "n a . 2", "z . . 3")
        new = lines("a . . 1", "n c . 4", "z . . 3")
        self.assertEqual(recover_slots("b", MACHINE, old, new).journal(), new)
        for length in range(len(new)):
            party = recover_slots("b", MACHINE, old + lines("t a x 1"), new[:length])
            self.assertEqual(party.journal(), old + lines("t a x 1"))
            self.assertEqual(party.post("a", "x"), ("letter", "b", "a", 3, "x"))

    def test_both_whole(self):
        old, new = slim(self.party()), slim(Party("b", MACHINE))
        self.assertEqual(recover_slots("b", MACHINE, old, new).journal(), new)
        self.assertEqual(recover_slots("b", MACHINE, new, old).journal(), old)
        self.assertEqual(recover_slots("b", MACHINE, self.OLD, new).journal(), new)

    def test_both_torn(self):
        start = told(Party("b", MACHINE))
        summary = slim(self.party())
        for length in range(len(summary)):
            self.assertEqual(told(recover_slots("b", MACHINE, summary[:-1], summary[:length])), start)
            self.assertEqual(told(recover_slots("b", MACHINE, summary[:length], summary[:-1])), start)
        torn = recover_slots("b", MACHINE, self.OLD[:-1], summary[:-1])
        self.assertEqual(told(torn), told(recover("b", MACHINE, self.OLD[:-1])))
        self.assertEqual(told(recover_slots("b", MACHINE, "", "")), start)

    def test_random_slots(self):
        chance = random.Random(133)
        chosen = {True: 0, False: 0}
        for machine in random_machines(134, 120):
            old, _ = acted(chance, machine, 20)
            new, _ = acted(chance, machine, 20)
            text = slim(new) + chance.choice(["", "p b x 1", lines("r b . 77")])
            cut = text[:chance.randrange(len(text) - 20, len(text) + 1)] if chance.randrange(3) else text
            party = recover_slots("a", machine, old.journal(), cut)
            is_new = len(cut) >= len(slim(new))
            self.assertEqual(told(party), told(recover("a", machine, cut if is_new else old.journal())))
            chosen[is_new] += 1
        self.assertGreater(min(chosen.values()), 20)


if __name__ == "__main__":
    unittest.main()
