import copy
import unittest

from oracle import fault_of_form
from pactloom.checking import check, unready
from pactloom.conducting import conduct
from pactloom.errors import TooLarge
from pactloom.tables import least, table_of
from pactloom.views import hide
from samples import act, acts, choice, letters, loop
from test_checking import small_tables
from test_views import chain, ring

EMPTY = ("table", ((),), (True,))


def asked(actions):
    """What a conductor k makes of a list of actions."""
    conducted = []
    for p, q, x in actions:
        conducted += [("k", p, f"{x}.{q}"), (p, q, x), (q, "k", f"{x}.{p}")]
    return conducted


def replaced(table, conductor):
    """Point 44: the rows of a conducted table as a dict from states to dicts, and its ends; states by other names."""
    _, rows, ends = table
    found, found_ends = {}, {}
    for s, row in enumerate(rows):
        found[s], found_ends[s] = {}, ends[s]
        for (p, q, x), t in row:
            first, second = f"{s} {p} {q} {x} asked", f"{s} {p} {q} {x} done"
            found[s][conductor, p, x + "." + q] = first
            found[first] = {(p, q, x): second}
            found[second] = {(q, conductor, x + "." + p): t}
            found_ends[first] = found_ends[second] = False
    return found, found_ends


def numbered(rows, ends):
    """The table of these rows, its states numbered as they are found (point 14)."""
    found = [0]
    for state in found:
        found += [rows[state][x] for x in sorted(rows[state]) if rows[state][x] not in found]
    new_rows = tuple(tuple((x, found.index(rows[state][x])) for x in sorted(rows[state])) for state in found)
    return ("table", new_rows, tuple(ends[state] for state in found))


class TestConducting(unittest.TestCase):
    def test_no_letter(self):
        self.assertEqual(conduct(EMPTY, "k"), EMPTY)

    def test_one_letter(self):
        self.assertEqual(conduct(chain(acts("a b x")), "k"), chain(acts("k a x.b", "a b x", "b k x.a")))

    def test_letters_one_behind_the_other(self):
        found = acts("a b x", "b c y9", "a b x")
        self.assertEqual(conduct(chain(found), "k"), chain(asked(found)))

    def test_a_loop_leads_back(self):
        table = ("table", (((act("a b x"), 0),),), (True,))
        asks, does, tells = acts("k a x.b", "a b x", "b k x.a")
        self.assertEqual(conduct(table, "k"), ("table", (((asks, 1),), ((does, 2),), ((tells, 0),)), (True, False, False)))

    def test_states_are_numbered_as_they_are_found(self):
        # Of the letters of a, the one to b stands first; of those that ask for them, the one for c.
        table = table_of(choice(letters("a b y"), letters("a c x", "c a x")))
        rows = (
            ((act("k a x.c"), 1), (act("k a y.b"), 2)),
            ((act("a c x"), 3),),
            ((act("a b y"), 4),),
            ((act("c k x.a"), 5),),
            ((act("b k y.a"), 6),),
            ((act("k c x.a"), 7),),
            (),
            ((act("c a x"), 8),),
            ((act("a k x.c"), 6),),
        )
        self.assertEqual(conduct(table, "k"), ("table", rows, tuple(state == 6 for state in range(9))))

    def test_alike_letters_have_states_of_their_own(self):
        x = act("a b x")
        table = ("table", (((x, 1),), ((x, 1),)), (True, True))
        asks, does, tells = asked([x])
        rows = (((asks, 1),), ((does, 2),), ((tells, 3),), ((asks, 4),), ((does, 5),), ((tells, 3),))
        self.assertEqual(conduct(table, "k"), ("table", rows, (True, False, False, True, False, False)))

    def test_the_conductor_may_have_any_name(self):
        for name in ["x", "a0", "conductor123", "zz"]:
            self.assertEqual(conduct(chain(acts("b c x")), name), chain([(name, "b", "x.c"), act("b c x"), ("c", name, "x.b")]))

    def test_a_conducted_table_conducted(self):
        table = conduct(chain(acts("a b x")), "k")
        found = acts("m k x.b.a", "k a x.b", "a m x.b.k", "m a x.b", "a b x", "b m x.a", "m b x.a.k", "b k x.a", "k m x.a.b")
        self.assertEqual(conduct(table, "m"), chain(found))
        self.assertEqual(check(conduct(table, "m")), ("fine",))

    def test_all_conducted_tables(self):
        for table in small_tables(101, 150):
            before = copy.deepcopy(table)
            conducted = conduct(table, "bk")
            self.assertEqual(table, before)
            self.assertIsNone(fault_of_form(conducted))
            self.assertEqual(conducted, numbered(*replaced(table, "bk")))

    def test_nine_hundred_states_and_more(self):
        conducted = conduct(ring(300), "k")
        self.assertEqual(len(conducted[1]), 900)
        self.assertEqual(conducted, numbered(*replaced(ring(300), "k")))
        self.assertEqual(len(conduct(chain([act("a b x")] * 299), "k")[1]), 898)
        for table in [chain([act("a b x")] * 300), ring(301), conduct(ring(300), "m")]:
            with self.assertRaises(TooLarge):
                conduct(table, "k")

    def test_states_and_not_letters_are_counted(self):
        row = tuple((("a", "b", f"x{number:03}"), 0) for number in range(449))
        self.assertEqual(len(conduct(("table", (row,), (True,)), "k")[1]), 899)
        row += (("a", "c", "x"), 0),
        with self.assertRaises(TooLarge):
            conduct(("table", (row,), (True,)), "k")


class TestConductedProtocols(unittest.TestCase):
    def test_they_are_always_accepted_and_ready(self):
        refused = 0
        for table in small_tables(102, 150):
            conducted = conduct(table, "k")
            self.assertEqual(check(conducted), ("fine",))
            self.assertIsNone(unready(conducted))
            refused += check(table) != ("fine",)
        self.assertGreater(refused, 50)

    def test_hiding_the_conductor(self):
        for table in small_tables(103, 150):
            self.assertEqual(hide(conduct(table, "c0"), "c0"), least(table))
        twice = ("table", (((act("a b x"), 1),), ((act("a b x"), 0),)), (True, True))
        self.assertEqual(hide(conduct(twice, "k"), "k"), ("table", (((act("a b x"), 0),),), (True,)))
        self.assertEqual(hide(conduct(EMPTY, "k"), "k"), EMPTY)

    def test_hiding_the_conductor_of_a_large_table(self):
        table = chain([act("a b x")] * 299)
        self.assertEqual(hide(conduct(table, "k"), "k"), table)
        # A loop is met by one set of states at the start and by another one when it comes back there.
        self.assertEqual(hide(conduct(ring(299), "k"), "k"), ring(1))
        with self.assertRaises(TooLarge):
            hide(conduct(ring(300), "k"), "k")

    def test_hiding_another_party(self):
        table = table_of(letters("a b x") + loop(letters("b a y")))
        self.assertEqual(hide(conduct(table, "k"), "a"), table_of(letters("b k x.a") + loop(letters("k b y.a"))))


if __name__ == "__main__":
    unittest.main()
