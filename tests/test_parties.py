import copy
import unittest

from pactloom.errors import NotPossible, PactError
from pactloom.journals import record
from pactloom.parties import Party, recover
from pactloom.views import machine_of
from players import Plain, chances, lines, random_act, random_machines, random_message, table_from, told

# What b sees: it asks a or c, or hears from them.
TABLE = table_from("loop {choice {b -> a: x; a -> b: y | b -> c: x; c -> b: y | a -> b: x | a -> b: z | c -> b: x; b -> a: z}}")
MACHINE = machine_of(TABLE, "b")


def party_b():
    return Party("b", MACHINE)


class TestStart(unittest.TestCase):
    def test_at_the_start(self):
        party = party_b()
        self.assertEqual(party.at(), 0)
        self.assertEqual(party.journal(), "")
        self.assertEqual(party.offers(), {})
        self.assertIsNone(party.waits())
        self.assertIs(party.rests(), True)
        self.assertEqual(party.can(), [("post", "a", "x"), ("post", "c", "x")])

    def test_a_machine_that_may_not_rest(self):
        self.assertIs(Party("a", table_from("a -> b: x")).rests(), False)

    def test_parties_are_independent(self):
        one, other = party_b(), party_b()
        one.post("a", "x")
        one.hear(("letter", "c", "b", 1, "x"))
        self.assertEqual((other.journal(), other.offers(), other.waits()), ("", {}, None))


class TestActs(unittest.TestCase):
    def refuses(self, party, act):
        before = told(party)
        with self.assertRaises(NotPossible) as caught:
            act()
        self.assertIsInstance(caught.exception, PactError)
        self.assertEqual(told(party), before)

    def test_post(self):
        party = party_b()
        self.assertEqual(party.post("a", "x"), ("letter", "b", "a", 1, "x"))
        self.assertEqual(party.journal(), lines("p a x 1"))
        self.assertEqual(party.waits(), ("a", "x"))
        self.assertEqual(party.at(), 0)
        self.assertIs(party.rests(), False)
        self.assertEqual(party.can(), [])

    def test_numbers_count_for_each_taker(self):
        party = party_b()
        for taker, number in [("a", 1), ("a", 2), ("c", 1), ("a", 3), ("c", 2)]:
            self.assertEqual(party.post(taker, "x"), ("letter", "b", taker, number, "x"))
            party.hear(("gone", "b", taker, number))

    def test_post_is_not_possible(self):
        party = party_b()
        for taker, label in [("a", "y"), ("d", "x"), ("b", "x"), ("a", ""), ("c", "z")]:
            self.refuses(party, lambda to=taker, what=label: party.post(to, what))
        party.post("a", "x")
        for taker in "ac":
            self.refuses(party, lambda to=taker: party.post(to, "x"))

    def test_what_it_takes_it_cannot_post(self):
        self.refuses(Party("b", table_from("a -> b: x")), lambda: Party("b", table_from("a -> b: x")).post("a", "x"))

    def test_withdraw_and_again(self):
        party = party_b()
        self.refuses(party, party.withdraw)
        self.refuses(party, party.again)
        party.post("c", "x")
        self.assertEqual(party.again(), ("letter", "b", "c", 1, "x"))
        before = told(party)
        self.assertEqual(party.withdraw(), ("back", "b", "c", 1))
        self.assertEqual(party.again(), ("back", "b", "c", 1))
        self.assertEqual(party.withdraw(), ("back", "b", "c", 1))
        self.assertEqual(told(party), before)
        self.refuses(party, lambda: party.post("c", "x"))
        party.hear(("gone", "b", "c", 1))
        self.refuses(party, party.again)
        self.refuses(party, party.withdraw)
        party.post("c", "x")
        self.assertEqual(party.again(), ("letter", "b", "c", 2, "x"))

    def test_a_withdrawn_letter_that_was_taken(self):
        party = party_b()
        party.post("c", "x")
        party.withdraw()
        party.hear(("taken", "b", "c", 1))
        self.assertEqual(party.journal(), lines("p c x 1", "k c x 1"))
        party.hear(("letter", "c", "b", 1, "y"))
        party.take("c")
        party.post("c", "x")
        self.assertEqual(party.again(), ("letter", "b", "c", 2, "x"))

    def test_take(self):
        party = party_b()
        party.hear(("letter", "a", "b", 4, "x"))
        self.assertEqual(party.take("a"), ("taken", "a", "b", 4))
        self.assertEqual(party.journal(), lines("t a x 4"))
        self.assertEqual(party.offers(), {})
        self.assertEqual(party.hear(("back", "a", "b", 4)), [("taken", "a", "b", 4)])

    def test_take_makes_the_machine_go_on(self):
        party = party_b()
        party.hear(("letter", "c", "b", 1, "x"))
        party.take("c")
        self.assertNotEqual(party.at(), 0)
        self.assertIs(party.rests(), False)
        self.assertEqual(party.can(), [("post", "a", "z")])

    def test_take_is_not_possible(self):
        party = party_b()
        for sender in ["a", "b", "c", "d"]:
            self.refuses(party, lambda of=sender: party.take(of))
        party.hear(("letter", "a", "b", 1, "x"))
        self.refuses(party, lambda: party.take("c"))
        party.post("c", "x")
        self.refuses(party, lambda: party.take("a"))
        party.hear(("taken", "b", "c", 1))
        self.refuses(party, lambda: party.take("a"))
        party.hear(("letter", "c", "b", 1, "y"))
        party.take("c")
        self.assertEqual(party.take("a"), ("taken", "a", "b", 1))
        self.refuses(party, lambda: party.take("a"))

    def test_an_offer_of_another_label(self):
        party = party_b()
        party.hear(("letter", "a", "b", 1, "y"))
        self.assertEqual(party.offers(), {"a": "y"})
        self.refuses(party, lambda: party.take("a"))
        self.assertEqual(party.can(), [("post", "a", "x"), ("post", "c", "x")])


class TestHearing(unittest.TestCase):
    def test_a_letter_becomes_an_offer(self):
        party = party_b()
        self.assertEqual(party.hear(("letter", "a", "b", 1, "x")), [])
        self.assertEqual(party.offers(), {"a": "x"})
        self.assertEqual(party.hear(("letter", "c", "b", 1, "x")), [])
        self.assertEqual(party.offers(), {"a": "x", "c": "x"})
        self.assertEqual(party.journal(), "")

    def test_a_newer_letter_takes_the_place_of_an_older_one(self):
        party = party_b()
        party.hear(("letter", "a", "b", 2, "x"))
        for number, label, offered in [(1, "z", "x"), (2, "z", "x"), (3, "z", "z"), (2, "x", "z"), (9, "x", "x")]:
            self.assertEqual(party.hear(("letter", "a", "b", number, label)), [])
            self.assertEqual(party.offers(), {"a": offered})
        self.assertEqual(party.take("a"), ("taken", "a", "b", 9))

    def test_offers_are_heard_while_it_waits(self):
        party = party_b()
        party.post("a", "x")
        party.hear(("letter", "a", "b", 1, "x"))
        self.assertEqual(party.offers(), {"a": "x"})
        self.assertEqual(party.can(), [])

    def test_a_letter_that_is_settled(self):
        party = party_b()
        party.hear(("letter", "a", "b", 3, "x"))
        party.take("a")
        before = told(party)
        self.assertEqual(party.hear(("letter", "a", "b", 3, "x")), [("taken", "a", "b", 3)])
        self.assertEqual(party.hear(("letter", "a", "b", 2, "x")), [])
        self.assertEqual(party.hear(("letter", "a", "b", 1, "x")), [])
        self.assertEqual(told(party), before)
        party.hear(("back", "a", "b", 4))
        before = told(party)
        self.assertEqual(party.hear(("letter", "a", "b", 4, "x")), [("gone", "a", "b", 4)])
        self.assertEqual(party.hear(("letter", "a", "b", 3, "x")), [])
        self.assertEqual(told(party), before)
        self.assertEqual(party.hear(("letter", "a", "b", 5, "x")), [])
        self.assertEqual(party.offers(), {"a": "x"})

    def test_numbers_begin_behind_zero(self):
        party = party_b()
        self.assertEqual(party.hear(("letter", "a", "b", 0, "x")), [("gone", "a", "b", 0)])
        self.assertEqual(party.hear(("back", "a", "b", 0)), [("gone", "a", "b", 0)])
        self.assertEqual(told(party), told(party_b()))

    def test_a_back_that_comes_first(self):
        party = party_b()
        self.assertEqual(party.hear(("back", "a", "b", 1)), [("gone", "a", "b", 1)])
        self.assertEqual(party.journal(), lines("r a . 1"))
        self.assertEqual(party.hear(("letter", "a", "b", 1, "x")), [("gone", "a", "b", 1)])
        self.assertEqual(party.offers(), {})

    def test_a_back_of_an_offer(self):
        for number, left in [(1, {"a": "x", "c": "x"}), (2, {"c": "x"}), (3, {"c": "x"})]:
            party = party_b()
            party.hear(("letter", "a", "b", 2, "x"))
            party.hear(("letter", "c", "b", 1, "x"))
            self.assertEqual(party.hear(("back", "a", "b", number)), [("gone", "a", "b", number)])
            self.assertEqual(party.offers(), left)
            self.assertEqual(party.journal(), lines(f"r a . {number}"))

    def test_a_back_that_is_settled(self):
        party = party_b()
        party.hear(("letter", "a", "b", 2, "x"))
        party.take("a")
        before = told(party)
        self.assertEqual(party.hear(("back", "a", "b", 2)), [("taken", "a", "b", 2)])
        self.assertEqual(party.hear(("back", "a", "b", 1)), [])
        self.assertEqual(told(party), before)
        self.assertEqual(party.hear(("back", "a", "b", 3)), [("gone", "a", "b", 3)])
        before = told(party)
        self.assertEqual(party.hear(("back", "a", "b", 3)), [("gone", "a", "b", 3)])
        self.assertEqual(party.hear(("back", "a", "b", 2)), [])
        self.assertEqual(told(party), before)

    def test_each_sender_is_settled_for_itself(self):
        party = party_b()
        party.hear(("back", "a", "b", 5))
        self.assertEqual(party.hear(("letter", "c", "b", 1, "x")), [])
        self.assertEqual(party.offers(), {"c": "x"})

    def test_backs_are_heard_while_it_waits(self):
        party = party_b()
        party.post("a", "x")
        self.assertEqual(party.hear(("back", "a", "b", 1)), [("gone", "a", "b", 1)])
        self.assertEqual(party.journal(), lines("p a x 1", "r a . 1"))
        self.assertEqual(party.waits(), ("a", "x"))

    def test_taken(self):
        party = party_b()
        party.post("a", "x")
        self.assertEqual(party.hear(("taken", "b", "a", 1)), [])
        self.assertEqual(party.journal(), lines("p a x 1", "k a x 1"))
        self.assertIsNone(party.waits())
        self.assertNotEqual(party.at(), 0)
        before = told(party)
        self.assertEqual(party.hear(("taken", "b", "a", 1)), [])
        self.assertEqual(party.hear(("gone", "b", "a", 1)), [])
        self.assertEqual(told(party), before)

    def test_gone(self):
        party = party_b()
        party.post("a", "x")
        self.assertEqual(party.hear(("gone", "b", "a", 1)), [])
        self.assertEqual(party.journal(), lines("p a x 1", "g a x 1"))
        self.assertIsNone(party.waits())
        self.assertEqual(party.at(), 0)
        before = told(party)
        self.assertEqual(party.hear(("taken", "b", "a", 1)), [])
        self.assertEqual(party.hear(("gone", "b", "a", 1)), [])
        self.assertEqual(told(party), before)

    def test_answers_that_are_not_for_the_letter(self):
        for kind in ["taken", "gone"]:
            party = party_b()
            party.post("a", "x")
            party.hear(("gone", "b", "a", 1))
            party.post("a", "x")
            before = told(party)
            for sender, taker, number in [("b", "a", 1), ("b", "a", 3), ("b", "c", 2), ("a", "b", 2), ("c", "a", 2)]:
                self.assertEqual(party.hear((kind, sender, taker, number)), [])
                self.assertEqual(told(party), before)
            party.hear((kind, "b", "a", 2))
            self.assertNotEqual(told(party), before)

    def test_messages_to_others(self):
        party = party_b()
        for message in [("letter", "a", "c", 1, "x"), ("back", "a", "c", 1), ("letter", "b", "a", 1, "x"), ("back", "b", "a", 1),
                        ("taken", "a", "b", 1), ("gone", "a", "b", 1), ("taken", "b", "a", 1), ("gone", "b", "a", 1)]:
            self.assertEqual(party.hear(message), [])
            self.assertEqual(told(party), told(party_b()))


class TestCan(unittest.TestCase):
    def test_posts_and_takes_in_ascending_order(self):
        party = party_b()
        party.hear(("letter", "c", "b", 1, "x"))
        party.hear(("letter", "a", "b", 1, "z"))
        self.assertEqual(party.can(), [("post", "a", "x"), ("post", "c", "x"), ("take", "a"), ("take", "c")])
        machine = (("table", (((("b", "a", "z"), 0), (("b", "c", "a"), 0), (("b", "c", "x1"), 0)),), (False,)))
        self.assertEqual(Party("b", machine).can(), [("post", "a", "z"), ("post", "c", "a"), ("post", "c", "x1")])
        self.assertIs(Party("b", machine).rests(), False)

    def test_actions_of_others_in_its_machine(self):
        party = Party("c", table_from("a -> b: x; b -> c: x"))
        party.hear(("letter", "a", "c", 1, "x"))
        self.assertEqual(party.can(), [])
        with self.assertRaises(NotPossible):
            party.take("a")

    def test_nothing_while_it_waits(self):
        party = party_b()
        party.hear(("letter", "a", "b", 1, "z"))
        party.post("a", "x")
        self.assertEqual(party.can(), [])
        self.assertIs(party.rests(), False)
        party.hear(("gone", "b", "a", 1))
        self.assertEqual(party.can(), [("post", "a", "x"), ("post", "c", "x"), ("take", "a")])
        self.assertIs(party.rests(), True)

    def test_all_that_it_can_is_possible_and_nothing_else(self):
        for machine in random_machines(61, 40):
            for chance in chances(62, 3):
                party = Party("a", machine)
                for _ in range(15):
                    party.hear(random_message(chance))
                    act = random_act(chance)
                    tried = copy.deepcopy(party)
                    try:
                        getattr(tried, act[0])(*act[1:])
                        self.assertTrue(act in party.can() or act[0] in ("withdraw", "again"))
                        party = tried
                    except NotPossible:
                        self.assertNotIn(act, party.can())

    def test_what_is_given_away_is_new(self):
        party = party_b()
        party.hear(("letter", "a", "b", 1, "x"))
        party.offers().clear()
        party.can().clear()
        self.assertEqual(party.offers(), {"a": "x"})
        self.assertEqual(party.can(), [("post", "a", "x"), ("post", "c", "x"), ("take", "a")])


class TestManyActs(unittest.TestCase):
    def test_a_party_and_a_plain_one_do_the_same(self):
        for number, machine in enumerate(random_machines(63, 150)):
            for chance in chances(number, 2):
                party, plain = Party("a", machine), Plain("a", machine)
                for _ in range(40):
                    self.act_both(chance, party, plain)
                    self.assertEqual(told(party), plain.told())

    def act_both(self, chance, party, plain):
        if chance.randrange(2):
            message = random_message(chance)
            self.assertEqual(party.hear(message), plain.hear(message))
            return
        act = chance.choice([(random_act(chance)), *(party.can() * 2)])
        expected = plain.do(act)
        try:
            self.assertEqual(getattr(party, act[0])(*act[1:]), expected)
        except NotPossible:
            self.assertIsNone(expected)


class TestRecovering(unittest.TestCase):
    def recovered(self, *parts):
        """The number of records of the journal that count."""
        texts = [lines(part) for part in parts]
        party = recover("b", MACHINE, "".join(texts))
        kept = [many for many in range(len(texts) + 1) if "".join(texts[:many]) == party.journal()]
        return kept[0]

    def test_an_empty_journal(self):
        self.assertEqual(told(recover("b", MACHINE, "")), told(party_b()))

    def test_what_it_did_it_has_done(self):
        party = recover("b", MACHINE, lines("p a x 1", "g a x 1", "r c . 2", "p c x 1", "k c x 1", "t c y 3", "p a x 2"))
        self.assertEqual(party.waits(), ("a", "x"))
        self.assertEqual(party.at(), 0)
        self.assertEqual(party.again(), ("letter", "b", "a", 2, "x"))
        self.assertEqual(party.hear(("letter", "c", "b", 3, "y")), [("taken", "c", "b", 3)])
        self.assertEqual(party.hear(("back", "c", "b", 2)), [])
        self.assertEqual(party.hear(("taken", "b", "a", 2)), [])
        self.assertEqual(party.journal()[-len(lines("k a x 2")):], lines("k a x 2"))

    def test_no_offers_and_withdrawing_nothing(self):
        party = party_b()
        party.hear(("letter", "a", "b", 1, "x"))
        party.post("a", "x")
        party.withdraw()
        again = recover("b", MACHINE, party.journal())
        self.assertEqual(again.offers(), {})
        self.assertEqual(again.waits(), ("a", "x"))
        self.assertEqual(again.again(), ("letter", "b", "a", 1, "x"))
        self.assertEqual(again.journal(), party.journal())

    def test_records_that_are_possible(self):
        self.assertEqual(self.recovered("p a x 1", "g a x 1", "p a x 2", "k a x 2", "t a y 1"), 5)
        self.assertEqual(self.recovered("t a x 1", "t a x 2", "t a z 7", "r a . 8", "r a . 10", "t a x 11"), 6)
        self.assertEqual(self.recovered("p c x 1", "r a . 1", "r a . 2", "r d . 1", "g c x 1"), 5)

    def test_a_post_that_is_not_possible(self):
        self.assertEqual(self.recovered("p a x 1", "p a x 2"), 1)
        self.assertEqual(self.recovered("p a x 2"), 0)
        self.assertEqual(self.recovered("p a x 1", "g a x 1", "p a x 1"), 2)
        self.assertEqual(self.recovered("p a x 1", "g a x 1", "p a x 3"), 2)
        self.assertEqual(self.recovered("p a x 1", "g a x 1", "p c x 2"), 2)
        self.assertEqual(self.recovered("p a y 1"), 0)
        self.assertEqual(self.recovered("p d x 1"), 0)
        self.assertEqual(self.recovered("p a x 1", "k a x 1", "p a x 2"), 2)

    def test_an_answer_that_is_not_possible(self):
        for kind in "kg":
            self.assertEqual(self.recovered(f"{kind} a x 1"), 0)
            self.assertEqual(self.recovered("p a x 1", f"{kind} a x 2"), 1)
            self.assertEqual(self.recovered("p a x 1", f"{kind} c x 1"), 1)
            self.assertEqual(self.recovered("p a x 1", f"{kind} a y 1"), 1)
            self.assertEqual(self.recovered("p a x 1", f"{kind} a . 1"), 1)
            self.assertEqual(self.recovered("p a x 1", "g a x 1", f"{kind} a x 1"), 2)

    def test_a_take_that_is_not_possible(self):
        self.assertEqual(self.recovered("p a x 1", "t a x 1"), 1)
        self.assertEqual(self.recovered("t a y 1"), 0)
        self.assertEqual(self.recovered("t d x 1"), 0)
        self.assertEqual(self.recovered("t a . 1"), 0)
        self.assertEqual(self.recovered("t a x 1", "t a x 1"), 1)
        self.assertEqual(self.recovered("t a x 3", "t a x 2"), 1)
        self.assertEqual(self.recovered("r a . 3", "t a x 3"), 1)
        self.assertEqual(self.recovered("r a . 3", "t a x 4"), 2)

    def test_a_refusal_that_is_not_possible(self):
        self.assertEqual(self.recovered("r a x 1"), 0)
        self.assertEqual(self.recovered("r a . 1", "r a . 1"), 1)
        self.assertEqual(self.recovered("r a . 2", "r a . 1"), 1)
        self.assertEqual(self.recovered("t a x 2", "r a . 2"), 1)
        self.assertEqual(self.recovered("t a x 2", "r a . 3"), 2)

    def test_records_of_summaries_in_a_journal(self):
        for part in ["a . . 1", "n a . 1", "y a . 1", "x a . 1", "w a x 1", "w a x 2", "z . . 1", "z . . 2"]:
            self.assertEqual(self.recovered(part), 0)
            self.assertEqual(self.recovered("p a x 1", part), 1)
            self.assertEqual(self.recovered("p a x 1", "g a x 1", part), 2)

    def test_what_stands_behind_is_cut_off(self):
        good = lines("t a x 1", "p a x 1")
        for bad in [lines("p a x 2"), "?", "\n", " ", "t a x 3", lines("t a x 2")[:-1], "k a x 1 0\n"]:
            party = recover("b", MACHINE, good + bad + lines("k a x 1"))
            self.assertEqual(party.journal(), good)
            self.assertEqual(party.waits(), ("a", "x"))
            party.hear(("gone", "b", "a", 1))
            self.assertEqual(party.journal(), good + lines("g a x 1"))

    def test_a_journal_cut_at_each_place(self):
        parts = ["p a x 1", "g a x 1", "r c . 2", "t c x 3", "p a z 2", "k a z 2", "t a x 1"]
        journal = lines(*parts)
        for length in range(len(journal) + 1):
            whole = [many for many in range(len(parts) + 1) if len(lines(*parts[:many])) <= length]
            party = recover("b", MACHINE, journal[:length])
            self.assertEqual(party.journal(), lines(*parts[:whole[-1]]))

    def test_a_recovered_party_and_a_plain_one_do_the_same(self):
        for number, machine in enumerate(random_machines(64, 120)):
            for chance in chances(number, 2):
                party, plain = Party("a", machine), Plain("a", machine)
                for _ in range(30):
                    TestManyActs.act_both(self, chance, party, plain)
                    if chance.randrange(4) == 0:
                        party = recover("a", machine, party.journal() + chance.choice(["", "p b x", "r b . 99 1\n"]))
                        plain = Plain("a", machine, plain.records)
                    self.assertEqual(told(party), plain.told())

    def test_journals_of_any_records(self):
        kept = {}
        for number, machine in enumerate(random_machines(65, 120)):
            for chance in chances(number, 5):
                plain = Plain("a", machine)
                journal = ""
                for _ in range(12):
                    one = (chance.choice("pkgtrr"), chance.choice("bbc"), chance.choice("xxy."), chance.randrange(1, 4))
                    if one[0] == "r" and chance.randrange(4):
                        one = ("r", one[1], ".", one[3])
                    if plain.is_possible(one) or chance.randrange(12) == 0:
                        journal += record(*one)
                        if not plain.is_possible(one):
                            break
                        plain.records.append(one)
                party = recover("a", machine, journal + lines("r b . 50"))
                if plain.told()[-1] == journal:
                    plain.records.append(("r", "b", ".", 50))
                self.assertEqual(told(party), plain.told())
                kept[len(plain.records)] = True
        self.assertGreater(len(kept), 6)


class TestSummaries(unittest.TestCase):
    FULL = ["a . . 1", "n a . 3", "n c . 1", "x a . 4", "y c . 2", "w a x 3", "z . . 7"]

    def counts(self, *parts):
        """How many characters of the journal count?"""
        journal = lines(*parts)
        party = recover("b", MACHINE, journal)
        self.assertTrue(journal.startswith(party.journal()))
        if not party.journal():
            self.assertEqual(told(party), told(party_b()))
        return len(party.journal())

    def assertWhole(self, *parts):
        self.assertEqual(self.counts(*parts), len(lines(*parts)), parts)

    def assertNotWhole(self, *parts):
        self.assertEqual(self.counts(*parts), 0, parts)
        self.assertEqual(self.counts(*parts, "t a x 9"), 0, parts)

    def test_the_party_is_as_the_summary_says(self):
        party = recover("b", MACHINE, lines(*self.FULL))
        self.assertEqual(told(party), (0, ("a", "x"), {}, [], False, lines(*self.FULL)))
        self.assertEqual(party.again(), ("letter", "b", "a", 3, "x"))
        self.assertEqual(party.hear(("back", "a", "b", 4)), [("gone", "a", "b", 4)])
        self.assertEqual(party.hear(("letter", "a", "b", 3, "x")), [])
        self.assertEqual(party.hear(("letter", "c", "b", 2, "x")), [("taken", "c", "b", 2)])
        self.assertEqual(party.hear(("letter", "c", "b", 1, "x")), [])
        party.hear(("gone", "b", "a", 3))
        self.assertEqual(party.journal(), lines(*self.FULL, "g a x 3"))
        self.assertEqual(party.post("c", "x"), ("letter", "b", "c", 2, "x"))

    def test_a_summary_of_a_start(self):
        self.assertWhole("a . . 1", "z . . 2")
        self.assertEqual(told(recover("b", MACHINE, lines("a . . 1", "z . . 2")))[:5], told(party_b())[:5])

    def test_another_state(self):
        party = party_b()
        party.hear(("letter", "c", "b", 1, "x"))
        party.take("c")
        again = recover("b", MACHINE, lines(f"a . . {party.at() + 1}", "y c . 1", "z . . 3"))
        self.assertEqual(again.at(), party.at())
        self.assertEqual(again.can(), [("post", "a", "z")])

    def test_records_behind_a_summary(self):
        self.assertWhole(*self.FULL, "k a x 3", "t a y 5", "p c x 2")
        self.assertEqual(self.counts(*self.FULL, "p a x 4"), len(lines(*self.FULL)))
        self.assertEqual(self.counts(*self.FULL, "g a x 3", "p a x 3"), len(lines(*self.FULL, "g a x 3")))
        self.assertEqual(self.counts(*self.FULL, "r c . 2"), len(lines(*self.FULL)))
        self.assertEqual(self.counts(*self.FULL, "r a . 4"), len(lines(*self.FULL)))
        self.assertEqual(self.counts(*self.FULL, *self.FULL), len(lines(*self.FULL)))
        self.assertEqual(self.counts(*self.FULL, "z . . 8"), len(lines(*self.FULL)))

    def test_what_may_be_left_out(self):
        self.assertWhole("a . . 1", "n a . 3", "z . . 3")
        self.assertWhole("a . . 1", "y a . 3", "z . . 3")
        self.assertWhole("a . . 1", "x a . 3", "y c . 3", "x d . 3", "z . . 5")
        self.assertWhole("a . . 1", "n c . 3", "w c x 3", "z . . 4")

    def test_states_of_the_machine(self):
        many = len(MACHINE[1])
        self.assertGreater(many, 1)
        self.assertWhole(f"a . . {many}", "z . . 2")
        self.assertNotWhole(f"a . . {many + 1}", "z . . 2")
        self.assertNotWhole("a . . 999999999", "z . . 2")

    def test_the_number_of_the_records(self):
        for number in [1, 3, 8]:
            self.assertNotWhole("a . . 1", f"z . . {number}")
        for number in [6, 8]:
            self.assertNotWhole(*self.FULL[:-1], f"z . . {number}")

    def test_another_order(self):
        for at in range(len(self.FULL) - 1):
            swapped = self.FULL[:at] + [self.FULL[at + 1], self.FULL[at]] + self.FULL[at + 2:]
            self.assertNotWhole(*swapped)
        self.assertNotWhole("n a . 1", "a . . 1", "z . . 3")
        self.assertNotWhole("n a . 1", "z . . 2")
        self.assertNotWhole("a . . 1", "y a . 1", "n a . 1", "z . . 4")
        self.assertNotWhole("a . . 1", "n a . 1", "w a x 1", "y a . 1", "z . . 5")

    def test_parties_that_do_not_ascend(self):
        self.assertNotWhole("a . . 1", "n c . 1", "n a . 1", "z . . 4")
        self.assertNotWhole("a . . 1", "n a . 1", "n a . 1", "z . . 4")
        self.assertNotWhole("a . . 1", "y c . 1", "x a . 1", "z . . 4")
        self.assertNotWhole("a . . 1", "x c . 1", "y a . 1", "z . . 4")
        self.assertNotWhole("a . . 1", "x a . 1", "y a . 1", "z . . 4")
        self.assertNotWhole("a . . 1", "y a . 1", "y a . 1", "z . . 4")
        self.assertWhole("a . . 1", "n c . 1", "x a . 1", "z . . 4")

    def test_records_that_stand_twice_or_are_missing(self):
        self.assertNotWhole("a . . 1", "a . . 1", "z . . 3")
        self.assertNotWhole("a . . 1", "n a . 1", "w a x 1", "w a x 1", "z . . 5")
        for at in range(1, len(self.FULL)):
            self.assertNotWhole(*self.FULL[:at], *self.FULL[at + 1:])
        self.assertNotWhole("a . . 1")
        self.assertNotWhole("z . . 1")

    def test_other_records_within(self):
        for part in ["p a x 4", "k a x 3", "g a x 3", "t c x 3", "r c . 3"]:
            for at in range(1, len(self.FULL)):
                self.assertNotWhole(*self.FULL[:at], part, *self.FULL[at:-1], "z . . 8")

    def test_what_it_waits_for(self):
        self.assertNotWhole("a . . 1", "w a x 1", "z . . 3")
        self.assertNotWhole("a . . 1", "n a . 2", "w a x 1", "z . . 4")
        self.assertNotWhole("a . . 1", "n a . 1", "w a x 2", "z . . 4")
        self.assertNotWhole("a . . 1", "n a . 1", "w c x 1", "z . . 4")
        self.assertNotWhole("a . . 1", "n a . 1", "w a y 1", "z . . 4")
        self.assertNotWhole("a . . 1", "n a . 1", "w a . 1", "z . . 4")
        self.assertWhole("a . . 1", "n a . 1", "w a x 1", "z . . 4")
        state = recover("b", MACHINE, lines("t c x 1")).at() + 1
        self.assertNotWhole(f"a . . {state}", "n a . 1", "w a x 1", "z . . 4")
        self.assertWhole(f"a . . {state}", "n a . 1", "w a z 1", "z . . 4")

    def test_dots(self):
        for at, part in enumerate(self.FULL):
            kind, other, label, number = part.split()
            changed = [f"{kind} {other} x {number}"] if kind != "w" else []
            changed += [f"{kind} a {label} {number}"] if other == "." else []
            for one in changed:
                self.assertNotWhole(*self.FULL[:at], one, *self.FULL[at + 1:])

    def test_a_summary_cut_at_each_place(self):
        journal = lines(*self.FULL)
        for length in range(len(journal)):
            self.assertEqual(told(recover("b", MACHINE, journal[:length])), told(party_b()))

    def test_a_summary_with_a_wrong_sum(self):
        for at in range(len(self.FULL)):
            texts = [lines(part) for part in self.FULL]
            texts[at] = texts[at][:-2] + ("1\n" if texts[at][-2] != "1" else "2\n")
            self.assertEqual(told(recover("b", MACHINE, "".join(texts))), told(party_b()))

    def test_a_torn_record_behind_a_summary(self):
        tail = lines("k a x 3")
        for length in range(len(tail)):
            self.assertEqual(recover("b", MACHINE, lines(*self.FULL) + tail[:length]).journal(), lines(*self.FULL))


if __name__ == "__main__":
    unittest.main()
