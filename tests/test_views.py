import copy
import unittest

from oracle import fault_of_form, letters_in, lists_of, states_behind
from pactloom.errors import TooLarge
from pactloom.tables import least, table_of, walk
from pactloom.views import fits, hide, machine_of, parties_of, view
from samples import act, acts, both, choice, letters, loop, random_bodies

EMPTY = ("table", ((),), (True,))
ACTIONS = [("a", "b", "x"), ("b", "a", "x"), ("b", "c", "x"), ("c", "a", "y"), ("c", "d", "x")]


def chain(actions):
    """The table whose only complete run is the list of these actions."""
    rows = tuple(((action, state + 1),) for state, action in enumerate(actions))
    return ("table", rows + ((),), (False,) * len(actions) + (True,))


def ring(many):
    """A table of many states, all alike, that lead to one another in a ring."""
    rows = tuple(((("a", "b", "x"), (state + 1) % many),) for state in range(many))
    return ("table", rows, (True,) * many)


def doubling(many):
    """A body for which a must remember many of its letters, as it does not see when they begin to count."""
    either = choice(letters("a b x"), letters("a b y"))
    return loop(either) + letters("b c go", "a b x") + either * many


def small_tables(seed, many):
    """Tables of bodies with few states."""
    tables = []
    for body in random_bodies(seed, many, 2, ACTIONS):
        try:
            tables.append((table_of(body), letters_in(body)))
        except TooLarge:
            pass
    return [(table, actions) for table, actions in tables if len(table[1]) <= 40]


class TestParties(unittest.TestCase):
    def test_in_ascending_order(self):
        self.assertEqual(parties_of(EMPTY), [])
        self.assertEqual(parties_of(table_of(letters("c b x"))), ["b", "c"])
        self.assertEqual(parties_of(table_of(letters("c b x", "z9 a y", "b c z", "z a y"))), ["a", "b", "c", "z", "z9"])

    def test_parties_of_every_state_count(self):
        self.assertEqual(parties_of(table_of(letters("b c x", "c b x", "b a x"))), ["a", "b", "c"])
        self.assertEqual(parties_of(table_of(choice(letters("b c x"), letters("b d x")))), ["b", "c", "d"])

    def test_labels_are_no_parties(self):
        self.assertEqual(parties_of(table_of(letters("a b c"))), ["a", "b"])


class TestViews(unittest.TestCase):
    RUN = acts("a b x", "b c y", "c a z", "a b x", "c b a")

    def test_view_of_a_party(self):
        self.assertEqual(view(self.RUN, "a"), acts("a b x", "c a z", "a b x"))
        self.assertEqual(view(self.RUN, "b"), acts("a b x", "b c y", "a b x", "c b a"))
        self.assertEqual(view(self.RUN, "c"), acts("b c y", "c a z", "c b a"))
        self.assertEqual(view([], "a"), [])

    def test_view_of_a_name_that_is_none(self):
        for name in ["d", "x", "y", "ab", ""]:
            self.assertEqual(view(self.RUN, name), [])

    def test_view_is_a_new_list(self):
        run = list(self.RUN)
        view(run, "b").clear()
        self.assertEqual(run, self.RUN)
        everything = acts("a b x")
        self.assertIsNot(view(everything, "a"), everything)


class TestMachines(unittest.TestCase):
    def test_parties_that_see_everything(self):
        table = table_of(loop(letters("a b x", "b a y")))
        self.assertEqual(machine_of(table, "a"), table)
        self.assertEqual(machine_of(table, "b"), table)

    def test_letters_of_others_are_left_out(self):
        table = table_of(letters("a b x", "b c x", "c a x"))
        self.assertEqual(machine_of(table, "a"), chain(acts("a b x", "c a x")))
        self.assertEqual(machine_of(table, "b"), chain(acts("a b x", "b c x")))
        self.assertEqual(machine_of(table, "c"), chain(acts("b c x", "c a x")))

    def test_a_party_that_takes_part_in_nothing_of_what_happens_first(self):
        table = table_of(letters("a b x", "b a x") + loop(letters("a b y")) + letters("b c z"))
        self.assertEqual(machine_of(table, "c"), chain([act("b c z")]))
        table = table_of(choice(letters("a b x", "b c x"), letters("a b y", "b c y")))
        x, y = act("b c x"), act("b c y")
        self.assertEqual(machine_of(table, "c"), ("table", (((x, 1), (y, 1)), ()), (False, True)))

    def test_a_party_that_takes_part_in_nothing_of_what_happens_last(self):
        table = table_of(letters("b c z", "a b x") + loop(letters("a b y")))
        self.assertEqual(machine_of(table, "c"), chain([act("b c z")]))

    def test_a_party_may_rest_where_others_go_on(self):
        table = table_of(letters("b c z") + choice((), letters("a b x", "b c z")))
        z = act("b c z")
        self.assertEqual(machine_of(table, "c"), ("table", (((z, 1),), ((z, 2),), ()), (False, True, True)))

    def test_a_name_that_is_no_party_of_the_table(self):
        for table in [EMPTY, table_of(letters("a b x")), table_of(loop(letters("a b x", "b c x")))]:
            for name in ["d", "x"]:
                self.assertEqual(machine_of(table, name), EMPTY)

    def test_more_than_one_state_behind_one_view(self):
        first = letters("a b x") + choice(letters("b c x"), letters("b c y"))
        table = table_of(first + letters("b a z") + choice(letters("c b x"), ()))
        x, z = act("a b x"), act("b a z")
        self.assertEqual(machine_of(table, "a"), chain([x, z]))
        table = table_of(choice(letters("b c x", "b a x", "b a y"), letters("b c y", "b a x", "b a z")))
        x, y, z = act("b a x"), act("b a y"), act("b a z")
        self.assertEqual(machine_of(table, "a"), ("table", (((x, 1),), ((y, 2), (z, 2)), ()), (False, False, True)))

    def test_machines_are_least(self):
        table = table_of(letters("a b x") + choice(letters("b a x", "b c x"), letters("b a y", "b c y")))
        one, x, y = act("a b x"), act("b a x"), act("b a y")
        machine = machine_of(table, "a")
        self.assertEqual(machine, ("table", (((one, 1),), ((x, 2), (y, 2)), ()), (False, False, True)))

    def test_all_machines(self):
        for table, actions in small_tables(11, 120):
            for party in ["a", "b", "c", "d", "e"]:
                self.check_seen(table, machine_of(table, party), actions, lambda x: party in (x[0], x[1]))

    def check_seen(self, table, smaller, actions, is_seen):
        """Is it the least table of what is seen of the runs and complete runs of the table?"""
        self.assertIsNone(fault_of_form(smaller))
        self.assertEqual(least(smaller), smaller)
        seen = [action for action in actions if is_seen(action)] + [act("a b no")]
        for found in lists_of(seen, 3):
            states = states_behind(table, found, is_seen)
            state = walk(smaller, found)
            self.assertIs(state is not None, bool(states))
            self.assertIs(state is not None and smaller[2][state], any(table[2][at] for at in states))

    def test_three_hundred_sets_of_states_and_more(self):
        x, z = act("a b x"), act("b c z")
        table = chain([x] * 299)
        self.assertEqual(machine_of(table, "a"), table)
        table = chain([z, x, z] * 299 + [z])
        self.assertEqual(machine_of(table, "a"), chain([x] * 299))
        for table in [chain([x] * 300), chain([z, x, z] * 300)]:
            with self.assertRaises(TooLarge):
                machine_of(table, "a")
            self.assertEqual(machine_of(table, "d"), EMPTY)

    def test_a_set_of_states_counts_once_in_whatever_order_it_is_found(self):
        x, y, u = act("a b x"), act("a b y"), act("b c u")
        rows = tuple(((x, state + 1),) for state in range(297))
        # From the state 297, x leads to 298 and y to 299; b and c lead from each of these to the other.
        rows += (((x, 298), (y, 299)), ((x, 300), (u, 299)), ((u, 298),), ())
        table = ("table", rows, (False,) * 300 + (True,))
        self.assertEqual(len(machine_of(table, "a")[1]), 300)
        self.assertEqual(len(hide(table, "c")[1]), 300)

    def test_sets_of_states_count_ahead_of_making_the_table_least(self):
        self.assertEqual(machine_of(ring(300), "a"), ring(1))
        with self.assertRaises(TooLarge):
            machine_of(ring(301), "a")

    def test_sets_that_double(self):
        for many, states in [(1, 4), (3, 16), (6, 128), (7, 256)]:
            table = table_of(doubling(many))
            self.assertLess(len(table[1]), 20)
            self.assertEqual(len(machine_of(table, "a")[1]), states)
        with self.assertRaises(TooLarge):
            machine_of(table_of(doubling(8)), "a")

    def test_a_table_stays_as_it_is(self):
        table = table_of(both(letters("a b x", "b c x"), letters("c a x")))
        before = copy.deepcopy(table)
        machine_of(table, "a")
        hide(table, "a")
        parties_of(table)
        fits(table, [act("a b x")])
        self.assertEqual(table, before)


class TestHiding(unittest.TestCase):
    def test_hiding_a_party(self):
        table = table_of(letters("a b x", "b c x", "c a x", "b c y"))
        self.assertEqual(hide(table, "a"), chain(acts("b c x", "b c y")))
        self.assertEqual(hide(table, "b"), chain(acts("c a x")))
        self.assertEqual(hide(table, "c"), chain(acts("a b x")))

    def test_hiding_a_name_that_is_none(self):
        table = table_of(both(letters("a b x", "b c x"), letters("c a x")))
        for name in ["d", "x"]:
            self.assertEqual(hide(table, name), least(table))
        twice = ("table", (((act("a b x"), 1),), ((act("a b x"), 0),)), (True, True))
        self.assertEqual(hide(twice, "d"), ("table", (((act("a b x"), 0),),), (True,)))
        self.assertEqual(hide(EMPTY, "a"), EMPTY)

    def test_hiding_all_that_happens(self):
        self.assertEqual(hide(table_of(loop(letters("a b x", "b a x"))), "a"), EMPTY)
        self.assertEqual(hide(table_of(letters("a b x")), "b"), EMPTY)

    def test_hiding_all_that_happens_at_a_start(self):
        table = table_of(loop(letters("a b x")) + choice(letters("a b y", "b c y"), letters("a b z", "b c z")))
        y, z = act("b c y"), act("b c z")
        self.assertEqual(hide(table, "a"), ("table", (((y, 1), (z, 1)), ()), (False, True)))

    def test_hiding_all_that_happens_at_an_end(self):
        table = table_of(letters("b c y") + loop(letters("a b x")) + letters("a b z"))
        self.assertEqual(hide(table, "a"), chain([act("b c y")]))
        table = table_of(letters("b c y") + choice(letters("a b x"), letters("b c z")))
        y, z = act("b c y"), act("b c z")
        self.assertEqual(hide(table, "a"), ("table", (((y, 1),), ((z, 2),), ()), (False, True, True)))

    def test_all_hidings(self):
        for table, actions in small_tables(12, 120):
            for party in ["a", "b", "c", "d", "e"]:
                TestMachines.check_seen(
                    self, table, hide(table, party), actions, lambda x: party not in (x[0], x[1])
                )

    def test_three_hundred_sets_of_states_and_more(self):
        x, z = act("a b x"), act("b c z")
        self.assertEqual(hide(chain([z, x, z] * 299), "c"), chain([x] * 299))
        self.assertEqual(hide(chain([x] * 299), "c"), chain([x] * 299))
        for table in [chain([z, x, z] * 300), chain([x] * 300)]:
            with self.assertRaises(TooLarge):
                hide(table, "c")
            self.assertEqual(hide(table, "b"), EMPTY)


class TestFitting(unittest.TestCase):
    def test_every_run_fits(self):
        for table, actions in small_tables(13, 40):
            for found in lists_of(actions[:3], 4):
                if walk(table, found) is not None:
                    self.assertIs(fits(table, found), True)

    def test_lists_that_fit_and_are_no_runs(self):
        table = table_of(choice(letters("a b x", "c d x"), letters("a b y", "c d y")))
        self.assertIsNone(walk(table, acts("a b x", "c d y")))
        self.assertIs(fits(table, acts("a b x", "c d y")), True)
        self.assertIs(fits(table, acts("c d y")), True)
        self.assertIs(fits(table, acts("c d y", "a b y")), True)
        table = table_of(letters("a b x", "c d x"))
        self.assertIs(fits(table, acts("c d x", "a b x")), True)

    def test_lists_that_do_not_fit(self):
        table = table_of(choice(letters("a b x", "b c x"), letters("a b y", "b c y")))
        for found in [["b c x"], ["a b x", "b c y"], ["a b z"], ["b a x"], ["a b x", "a b x"], ["a c x"], ["c a x"],
                      ["a b x", "b c x", "b c x"]]:
            self.assertIs(fits(table, acts(*found)), False)

    def test_what_only_the_taker_or_only_the_sender_refuses(self):
        table = table_of(letters("a b x", "c b x", "c d x", "c d y"))
        self.assertIs(fits(table, acts("c b x")), False)
        self.assertIs(fits(table, acts("a b x", "c d x")), False)
        self.assertIs(fits(table, acts("a b x", "c b x", "c d x")), True)

    def test_a_name_that_is_no_party_of_the_table(self):
        table = table_of(letters("a b x"))
        for found in [["a d x"], ["d a x"], ["d e x"], ["a b x", "d e x"], ["d e x", "a b x"]]:
            self.assertIs(fits(table, acts(*found)), False)
        self.assertIs(fits(EMPTY, acts("a b x")), False)

    def test_the_empty_list(self):
        self.assertIs(fits(EMPTY, []), True)
        self.assertIs(fits(table_of(letters("a b x")), []), True)

    def test_all_short_lists(self):
        for table, actions in small_tables(14, 40):
            machines = {party: machine_of(table, party) for party in parties_of(table)}
            for found in lists_of(actions[:3] + [act("a e x")], 3):
                known = all(x[0] in machines and x[1] in machines for x in found)
                views = [walk(machine, view(found, party)) for party, machine in machines.items()]
                self.assertIs(fits(table, found), known and None not in views)

    def test_a_list_stays_as_it_is(self):
        actions = acts("a b x", "b a x")
        fits(table_of(letters("a b x")), actions)
        self.assertEqual(actions, acts("a b x", "b a x"))


if __name__ == "__main__":
    unittest.main()
