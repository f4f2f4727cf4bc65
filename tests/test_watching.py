import copy
import unittest

from oracle import is_stray, machine_has, state_behind
from pactloom.checking import check
from pactloom.tables import table_of, walk
from pactloom.watching import Watch
from players import accepted_tables, chances
from samples import act, acts, choice, letters, random_tables
from test_checking import small_tables

ACTIONS = [("a", "b", "x"), ("b", "a", "x"), ("b", "c", "x"), ("c", "a", "y"), ("c", "d", "x"), ("a", "b", "y"),
           ("e", "a", "x"), ("a", "e", "x"), ("e", "f", "x"), ("a", "b", "no"), ("c", "b", "x")]


def watched(table, actions):
    """What a watch tells of each of the actions."""
    watch = Watch(table)
    return [watch.see(action) for action in actions]


class TestWatch(unittest.TestCase):
    TABLE = table_of(choice(letters("a b x", "b c x", "c d x"), letters("a b y", "b c y", "c d y")))

    def test_a_run(self):
        watch = Watch(self.TABLE)
        self.assertEqual(watch.seen(), [])
        for many, action in enumerate(acts("a b x", "b c x", "c d x"), 1):
            self.assertIsNone(watch.see(action))
            self.assertEqual(watch.seen(), acts("a b x", "b c x", "c d x")[:many])

    def test_the_sender_breaks_it(self):
        for action, breaker in [("a b z", "a"), ("b a x", "b"), ("b c x", "b"), ("a c x", "a"), ("d c x", "d")]:
            watch = Watch(self.TABLE)
            self.assertEqual(watch.see(act(action)), ("breach", breaker))
            self.assertEqual(watch.seen(), [])

    def test_the_taker_breaks_it(self):
        # d may send to b at any time, as far as it knows, but b takes from a first.
        table = table_of(letters("a b x", "d b x"))
        self.assertEqual(watched(table, acts("d b x")), [("breach", "b")])
        self.assertEqual(watched(table, acts("a b x", "d b x")), [None, None])
        self.assertEqual(watched(table, acts("a b x", "a b x")), [None, ("breach", "a")])

    def test_the_sender_comes_first_if_both_break_it(self):
        self.assertEqual(watched(self.TABLE, acts("a b x", "b c y")), [None, ("breach", "b")])
        self.assertEqual(watched(self.TABLE, acts("a b x", "c d y")), [None, ("breach", "c")])

    def test_nobody_breaks_it(self):
        table = table_of(choice(letters("a b x", "c d x"), letters("a b y", "c d y")))
        self.assertEqual(watched(table, acts("a b x", "c d y")), [None, ("breach", None)])
        self.assertEqual(watched(table, acts("c d y")), [("breach", None)])
        self.assertEqual(watched(table, acts("a b x", "c d x", "c d x")), [None, None, ("breach", "c")])

    def test_a_label_that_is_the_name_of_a_party(self):
        table = table_of(choice(letters("a b x"), letters("a b y", "c d a")))
        self.assertEqual(watched(table, acts("a b x", "c d a")), [None, ("breach", None)])

    def test_names_that_are_no_parties(self):
        table = table_of(letters("a b x"))
        for action, breaker in [("e b x", "e"), ("e f x", "e"), ("e a x", "e"), ("a e x", "a")]:
            self.assertEqual(watched(table, [act(action)]), [("breach", breaker)])
        self.assertEqual(watched(("table", ((),), (True,)), acts("a b x")), [("breach", "a")])

    def test_the_same_breach_from_then_on(self):
        watch = Watch(self.TABLE)
        watch.see(act("a b x"))
        self.assertEqual(watch.see(act("b c y")), ("breach", "b"))
        for action in acts("b c x", "c d x", "d a x", "a b x", "e f x"):
            self.assertEqual(watch.see(action), ("breach", "b"))
            self.assertEqual(watch.seen(), acts("a b x"))

    def test_a_breach_without_a_breaker_stays(self):
        table = table_of(choice(letters("a b x", "c d x"), letters("a b y", "c d y")))
        watch = Watch(table)
        for action, told in [("c d x", ("breach", None)), ("a b x", ("breach", None)), ("e f x", ("breach", None))]:
            self.assertEqual(watch.see(act(action)), told)
        self.assertEqual(watch.seen(), [])

    def test_what_is_seen_behind_a_complete_run(self):
        self.assertEqual(watched(self.TABLE, acts("a b x", "b c x", "c d x", "a b x"))[3], ("breach", "a"))

    def test_watches_are_independent_and_change_nothing(self):
        before = copy.deepcopy(self.TABLE)
        one, other = Watch(self.TABLE), Watch(self.TABLE)
        one.see(act("a b z"))
        self.assertIsNone(other.see(act("a b x")))
        other.seen().clear()
        self.assertEqual(other.seen(), acts("a b x"))
        self.assertEqual(self.TABLE, before)

    def test_all_watches(self):
        told = set()
        for number, table in enumerate(small_tables(91, 150)):
            for chance in chances(number, 4):
                told |= self.check_watch(table, chance)
        self.assertEqual(told, {None, "sender", "taker", "nobody"})

    def check_watch(self, table, chance):
        watch, ahead, told = Watch(table), [], set()
        for _ in range(8):
            known = [action for action, _ in table[1][state_behind(table, ahead)]] or ACTIONS
            action = chance.choice(known if chance.randrange(4) else ACTIONS)
            found = watch.see(action)
            if state_behind(table, ahead + [action]) is not None:
                self.assertIsNone(found)
                ahead.append(action)
                told.add(None)
            else:
                has = [machine_has(table, ahead, party, action) for party in action[:2]]
                breaker = action[0] if not has[0] else action[1] if not has[1] else None
                self.assertEqual(found, ("breach", breaker))
                self.assertEqual(watch.seen(), ahead)
                self.assertEqual(breaker is None, is_stray(table, ahead, action))
                return told | {"sender" if not has[0] else "taker" if not has[1] else "nobody"}
            self.assertEqual(watch.seen(), ahead)
        return told

    def test_in_an_accepted_protocol_there_is_a_breaker(self):
        for table in accepted_tables(92, 60):
            for chance in chances(93, 6):
                watch = Watch(table)
                for _ in range(10):
                    known = [action for action, _ in table[1][walk(table, watch.seen())]] + ACTIONS[:6]
                    action = chance.choice(known)
                    found = watch.see(action)
                    if found is not None:
                        self.assertIn(found, [("breach", action[0]), ("breach", action[1])])
                        break

    def test_a_refused_protocol_may_have_none(self):
        for table in random_tables(94, 60, ACTIONS[:6]):
            certificate = check(table)
            if certificate[0] == "stray":
                _, run, action, _, _ = certificate
                self.assertEqual(watched(table, run + [action]), [None] * len(run) + [("breach", None)])

    def test_a_table_with_machines_that_are_too_large(self):
        rows = tuple(((act("a b x"), state + 1),) for state in range(400)) + ((),)
        table = ("table", rows, (False,) * 400 + (True,))
        watch = Watch(table)
        for _ in range(400):
            self.assertIsNone(watch.see(act("a b x")))
        self.assertEqual(watch.see(act("a b x")), ("breach", "a"))


if __name__ == "__main__":
    unittest.main()
