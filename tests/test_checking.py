import copy
import unittest

from oracle import certificate_holds, everyone, is_idle, is_stray, is_unready, situations
from pactloom.checking import check, unready
from pactloom.errors import TooLarge
from pactloom.tables import table_of
from samples import act, acts, both, choice, letters, loop, random_tables, small_bodies
from test_joining import grid, with_one_more

EMPTY = ("table", ((),), (True,))
FINE = ("fine",)
ACTIONS = [("a", "b", "x"), ("b", "a", "x"), ("b", "c", "x"), ("c", "a", "y"), ("c", "d", "x"), ("a", "b", "y")]


def small_tables(seed, many):
    """Tables of bodies, and others, with few states."""
    return [table_of(body) for body in small_bodies(seed, many, 2, ACTIONS)] + random_tables(seed, many, ACTIONS)


class TestCheck(unittest.TestCase):
    def test_accepted_protocols(self):
        for body in [
            (),
            letters("a b x"),
            letters("a b x", "b c x", "c a x"),
            loop(letters("a b x", "b a y")),
            loop(letters("a b x")) + letters("a b y"),
            choice((), letters("a b x", "b a x")),
            choice(letters("a b x", "b c x"), letters("a b y", "b c y")),
            both(letters("a b x"), letters("c d x")),
            both(letters("a b x", "b a y"), loop(letters("c d x", "d c y"))),
            letters("a b x") + both(letters("b c x"), letters("b d x")),
        ]:
            self.assertEqual(check(table_of(body)), FINE)

    def test_two_that_do_not_know_when(self):
        table = table_of(letters("a b x", "c d x"))
        x, late = act("a b x"), act("c d x")
        self.assertEqual(check(table), ("stray", [], late, [x], [x]))

    def test_a_choice_of_one_that_another_does_not_hear_of(self):
        table = table_of(choice(letters("a b x", "c d x"), letters("a b y", "c d y")))
        found = check(table)
        self.assertEqual(found[0], "stray")
        self.assertTrue(certificate_holds(table, found))

    def test_a_stray_letter_needs_its_taker_too(self):
        # c does not know that it must not send ahead of a, but b, who takes both, does.
        table = table_of(letters("a b x", "c b x"))
        self.assertEqual(check(table), FINE)
        self.assertEqual(unready(table), ("unready", [], act("c b x"), acts("a b x")))

    def test_a_stray_letter_needs_its_sender_too(self):
        # b would take from c at once, but c waits for the letter of a.
        table = table_of(choice(letters("a c x", "c b x"), letters("a c y", "c b x")) + letters("b a z"))
        self.assertEqual(check(table), FINE)
        self.assertIsNone(unready(table))

    def test_each_could_leave_it_to_the_other(self):
        table = table_of(choice(letters("a b x"), letters("c b x")))
        self.assertEqual(check(table), ("idle", [], [("a", acts("c b x")), ("c", acts("a b x"))]))

    def test_all_who_could_go_on_must_be_able_to_rest(self):
        # Behind the letter x, b and c could go on. In a complete run b sees x only; c sees nothing if 2 is an end.
        x, y, of_b, of_c = act("a b x"), act("a b y"), act("b a y"), act("c a z")
        rows = (((x, 1), (y, 2)), ((of_b, 2), (of_c, 3)), ((of_c, 3),), ())
        self.assertEqual(check(("table", rows, (False, False, False, True))), FINE)
        others = [("b", [x, of_c]), ("c", [y])]
        self.assertEqual(check(("table", rows, (False, False, True, True))), ("idle", [x], others))

    def test_one_that_has_seen_the_same_in_a_complete_run(self):
        rows = (((act("a b x"), 1), (act("a b y"), 2)), ((act("c b x"), 3),), (), ())
        table = ("table", rows, (False, False, True, True))
        self.assertEqual(check(table), ("idle", acts("a b x"), [("c", acts("a b y"))]))

    def test_all_checks(self):
        kinds = set()
        for table in small_tables(31, 300):
            found = check(table)
            kinds.add(found[0])
            if found == FINE:
                for run in situations(table):
                    self.assertFalse(is_idle(table, run))
                    self.assertFalse([x for x in self.actions_of(table) if is_stray(table, run, x)])
            else:
                self.check_form(table, found)
                self.assertTrue(certificate_holds(table, found))
        self.assertEqual(kinds, {"fine", "stray", "idle"})

    def actions_of(self, table):
        return sorted({action for row in table[1] for action, _ in row})

    def check_form(self, table, found):
        """Is it a certificate of point 26 in the kinds of its values?"""
        self.assertIs(type(found), tuple)
        kind, run, *parts = found
        runs = [run]
        if kind == "stray":
            action, *others = parts
            self.assertEqual((len(others), type(action)), (2, tuple))
            runs += others
        else:
            self.assertEqual((kind, len(parts), type(parts[0])), ("idle", 1, list))
            for party, other in parts[0]:
                self.assertIn(party, everyone(table))
                runs.append(other)
        for other in runs:
            self.assertIs(type(other), list)
            self.assertTrue(all(type(action) is tuple for action in other))

    def test_a_fault_far_away(self):
        table = table_of(letters(*["a b x", "b c x", "c d x", "d a x"] * 20) + letters("a b y", "c d y"))
        found = check(table)
        self.assertEqual((found[0], found[2]), ("stray", act("c d y")))
        self.assertTrue(certificate_holds(table, found))

    def test_a_table_stays_as_it_is(self):
        table = table_of(letters("a b x", "c d x"))
        before = copy.deepcopy(table)
        check(table)[1].append("more")
        unready(table)[1].append("more")
        self.assertEqual(table, before)
        self.assertEqual(check(table)[1], [])
        self.assertEqual(unready(table)[1], [])

    def test_one_that_cannot_tell_an_end_and_would_be_right_to_go_on(self):
        first, x, y, last = act("a c f"), act("a b x"), act("a b y"), act("c b x")
        rows = (((first, 1),), ((x, 2), (y, 3), (last, 4)), ((last, 5),), ((last, 5),), ((x, 5), (y, 5)), ())
        table = ("table", rows, (False, False, False, True, False, True))
        self.assertEqual(check(table), ("idle", [first, x], [("c", [first, y])]))
        self.assertIsNone(unready(table))


class TestUnready(unittest.TestCase):
    def test_ready_protocols(self):
        for body in [
            (),
            letters("a b x"),
            letters("a b x", "b c x", "c a x"),
            loop(letters("a b x", "b a y")),
            choice(letters("a b x", "b c x"), letters("a b y", "b c y")),
            both(letters("a b x"), letters("c d x")),
        ]:
            self.assertIsNone(unready(table_of(body)))

    def test_a_sender_that_does_not_know(self):
        table = table_of(both(letters("a b x"), letters("b c x")) + letters("c d x"))
        self.assertEqual(check(table)[0], "stray")
        found = unready(table)
        self.assertEqual((found[0], found[2]), ("unready", act("c d x")))
        self.assertTrue(certificate_holds(table, found))

    def test_two_that_want_to_speak_first(self):
        table = table_of(choice(letters("a b x", "b a x"), letters("b a y", "a b y")))
        self.assertEqual(check(table), FINE)
        self.assertIsNone(unready(table))

    def test_all_that_are_unready(self):
        kinds = set()
        for table in small_tables(32, 300):
            found = unready(table)
            kinds.add((check(table) == FINE, found is None))
            if found is None:
                for run in situations(table):
                    self.assertFalse([x for x in TestCheck.actions_of(self, table) if is_unready(table, run, x)])
            else:
                self.assertEqual((type(found), found[0], len(found)), (tuple, "unready", 4))
                self.assertTrue(all(type(part) is list for part in (found[1], found[3])))
                self.assertTrue(certificate_holds(table, found))
        self.assertLessEqual({(True, True), (True, False), (False, False)}, kinds)


class TestTooLarge(unittest.TestCase):
    def test_three_thousand_joint_states_and_more(self):
        table = grid(4, 4, 4, 3, 2, 1)
        self.assertEqual(check(table), FINE)
        self.assertIsNone(unready(table))
        with self.assertRaises(TooLarge):
            check(with_one_more(table))
        with self.assertRaises(TooLarge):
            unready(with_one_more(table))

    def test_what_is_too_large_is_refused_even_if_a_fault_is_near(self):
        # The letter of y and z is stray at the start, and more than three thousand joint states lie behind it.
        table = with_one_more(grid(4, 4, 4, 4, 2, 1))
        for function in (check, unready):
            with self.assertRaises(TooLarge):
                function(table)
        small = with_one_more(grid(4, 2))
        self.assertEqual(check(small)[0], "stray")
        self.assertEqual(unready(small)[0], "unready")

    def test_a_machine_that_is_too_large(self):
        for many, function in [(300, check), (300, unready)]:
            rows = tuple(((act("a b x"), state + 1),) for state in range(many)) + ((),)
            with self.assertRaises(TooLarge):
                function(("table", rows, (False,) * many + (True,)))


if __name__ == "__main__":
    unittest.main()
