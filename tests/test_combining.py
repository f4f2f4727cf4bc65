import copy
import unittest

from oracle import dealt, fault_of_form, lists_of, state_behind
from pactloom.checking import check
from pactloom.combining import behind, beside
from pactloom.errors import TooLarge
from pactloom.storing import read_table
from pactloom.tables import difference, least, table_of
from players import chances
from samples import act, acts, both, choice, letters, loop, random_tables, small_bodies
from test_checking import small_tables
from test_views import chain, ring

EMPTY = ("table", ((),), (True,))
X, Y = act("a b x"), act("a b y")
LOOP = ("table", (((X, 0),),), (True,))
# These two share their actions, so that it often cannot be told whose action was done.
SWITCH = ("table", (((X, 0), (act("a b z"), 1)), ((X, 0), (act("a b z"), 0))), (True, False))
MANY_SETS = """state 0
  a -> b: z goto 1
state 1
  a -> b: x goto 2
  a -> b: z goto 3
state 2 end
  a -> b: x goto 3
  a -> b: z goto 4
state 3
  a -> b: x goto 4
  a -> b: y goto 4
  a -> b: z goto 3
state 4 end
  a -> b: x goto 1
  a -> b: y goto 5
  a -> b: z goto 2
state 5 end
  a -> b: x goto 6
  a -> b: y goto 2
  a -> b: z goto 4
state 6 end
  a -> b: y goto 6
  a -> b: z goto 1
"""


def actions_of(*tables):
    """All actions of these tables, in ascending order."""
    return sorted({action for table in tables for row in table[1] for action, _ in row})


def beside_states(one, other, run):
    """All pairs of states to which the run leads in some way to deal it to the two tables."""
    pairs = [(state_behind(one, mine), state_behind(other, its)) for mine, its in dealt(tuple(run), 2)]
    return frozenset(pair for pair in pairs if None not in pair)


def behind_states(one, other, run):
    """All states of one, and of the other behind a complete run of one, to which the run leads."""
    states = {("one", state_behind(one, run))}
    for at in range(len(run) + 1):
        state = state_behind(one, run[:at])
        if state is not None and one[2][state]:
            states.add(("other", state_behind(other, run[at:])))
    return frozenset(state for state in states if state[1] is not None)


def told(one, other, states_of, is_end):
    """Point 14, with these sets of states, each told anew by a run that leads there."""
    actions = actions_of(one, other)
    found = {states_of(one, other, []): 0}
    runs, rows = [[]], []
    for run in runs:
        row = []
        for action in actions:
            states = states_of(one, other, run + [action])
            if states and states not in found:
                found[states] = len(found)
                runs.append(run + [action])
            if states:
                row.append((action, found[states]))
        rows.append(tuple(row))
    return ("table", tuple(rows), tuple(any(is_end(state) for state in states) for states in found))


def told_beside(one, other):
    return told(one, other, beside_states, lambda pair: one[2][pair[0]] and other[2][pair[1]])


def told_behind(one, other):
    return told(one, other, behind_states, lambda state: state[0] == "other" and other[2][state[1]])


def renamed(table, names):
    """The table with other parties."""
    rows = tuple(tuple(sorted(((names[p], names[q], x), to) for (p, q, x), to in row)) for row in table[1])
    return ("table", rows, table[2])


class TestBeside(unittest.TestCase):
    def test_beside_nothing(self):
        for table in [EMPTY, LOOP, chain([X, Y]), table_of(both(letters("a b x"), letters("b c x")))]:
            self.assertEqual(beside(table, EMPTY), table)
            self.assertEqual(beside(EMPTY, table), table)

    def test_two_letters(self):
        x, z = act("a b x"), act("c d z")
        expected = ("table", (((x, 1), (z, 2)), ((z, 3),), ((x, 3),), ()), (False, False, False, True))
        self.assertEqual(beside(chain([x]), chain([z])), expected)
        self.assertEqual(beside(chain([z]), chain([x])), expected)

    def test_actions_of_both_ascend(self):
        table = beside(table_of(choice(letters("a b y"), letters("c a x"))), chain(acts("b a x")))
        self.assertEqual([action for action, _ in table[1][0]], acts("a b y", "b a x", "c a x"))

    def test_complete_if_both_are(self):
        one = table_of(choice((), letters("a b x")))
        other = table_of(letters("c d x") + choice((), letters("c d y")))
        table = beside(one, other)
        self.assertEqual(table[2], (False, False, True, True, True, True))
        self.assertEqual(table, told_beside(one, other))

    def test_the_same_actions(self):
        self.assertEqual(beside(chain([X]), chain([X])), chain([X, X]))
        self.assertEqual(beside(chain([X, Y]), chain([X])), (
            "table", (((X, 1),), ((X, 2), (Y, 3)), ((Y, 4),), ((X, 4),), ()), (False,) * 4 + (True,)
        ))
        self.assertEqual(beside(LOOP, LOOP), LOOP)
        self.assertEqual(beside(ring(2), ring(3)), told_beside(ring(2), ring(3)))
        twice = beside(chain([X, Y]), chain([X, Y]))
        self.assertEqual(twice, told_beside(chain([X, Y]), chain([X, Y])))
        self.assertEqual(len(twice[1]), 6)

    def test_it_is_what_a_both_is(self):
        for number, body in enumerate(small_bodies(161, 60, 1, most=5)):
            for other in small_bodies(162 + number, 3, 1, most=4):
                table = beside(table_of(body), table_of(other))
                self.assertIsNone(difference(table, table_of(both(body, other))))

    def test_all_tables(self):
        tables = random_tables(163, 120, most=4)
        for one, other in zip(tables, tables[1:]):
            before = copy.deepcopy((one, other))
            table = beside(one, other)
            self.assertEqual((one, other), before)
            self.assertIsNone(fault_of_form(table))
            if len(table[1]) <= 9:
                self.assertEqual(table, told_beside(one, other))

    def test_all_short_lists(self):
        tables = random_tables(164, 40, actions=acts("a b x", "b a x", "c d x"), most=4)
        for one, other in zip(tables, tables[1:]):
            table = beside(one, other)
            for run in lists_of(actions_of(one, other), 5):
                pairs = beside_states(one, other, run)
                state = state_behind(table, run)
                self.assertIs(state is not None, bool(pairs))
                if pairs:
                    self.assertIs(table[2][state], any(one[2][s] and other[2][t] for s, t in pairs))

    def test_a_product_of_three_hundred_states_and_more(self):
        z = act("c d z")
        for many, more in [(15, 20), (20, 15), (300, 1), (1, 300), (2, 150)]:
            table = beside(chain([X] * (many - 1)), chain([z] * (more - 1)))
            self.assertEqual(len(table[1]), 300)
            self.assertEqual(sum(table[2]), 1)
        for many, more in [(7, 43), (43, 7), (301, 1), (1, 301), (18, 17)]:
            with self.assertRaises(TooLarge):
                beside(chain([X] * (many - 1)), chain([z] * (more - 1)))

    def test_the_product_counts_where_the_table_would_be_small(self):
        self.assertEqual(len(beside(ring(15), ring(15))[1]), 15 + 14)
        self.assertEqual(len(beside(ring(15), ring(20))[1]), 64)
        with self.assertRaises(TooLarge):
            beside(ring(20), ring(20))
        with self.assertRaises(TooLarge):
            beside(ring(301), LOOP)
        with self.assertRaises(TooLarge):
            beside(ring(17), ring(18))

    def test_more_than_three_hundred_sets(self):
        one = read_table(MANY_SETS)
        self.assertEqual((len(one[1]), len(SWITCH[1])), (7, 2))
        for tables in [(one, SWITCH), (SWITCH, one)]:
            with self.assertRaises(TooLarge):
                beside(*tables)
        fewer = read_table(MANY_SETS.replace("y goto 5", "y goto 2").split("state 5")[0])
        self.assertEqual(len(beside(fewer, SWITCH)[1]), len(told_beside(fewer, SWITCH)[1]))


class TestBehind(unittest.TestCase):
    def test_behind_nothing(self):
        for table in [EMPTY, LOOP, chain([X, Y]), table_of(both(letters("a b x"), letters("b c x")))]:
            self.assertEqual(behind(table, EMPTY), table)
            self.assertIsNone(difference(behind(EMPTY, table), table))
        self.assertEqual(behind(EMPTY, chain([X, Y])), chain([X, Y]))
        # At the start the run is complete in one, too; behind x only the other is left.
        self.assertEqual(behind(EMPTY, LOOP), ("table", (((X, 1),), ((X, 1),)), (True, True)))

    def test_two_letters(self):
        self.assertEqual(behind(chain([X]), chain([Y])), chain([X, Y]))
        self.assertEqual(behind(chain([Y]), chain([X])), chain([Y, X]))
        self.assertEqual(behind(chain([X]), chain([X])), chain([X, X]))

    def test_one_that_may_end_and_go_on(self):
        z = act("c d z")
        self.assertEqual(behind(LOOP, chain([z])), ("table", (((X, 0), (z, 1)), ()), (False, True)))
        one = table_of(choice((), letters("a b x")))
        self.assertEqual(behind(one, chain([z])), ("table", (((X, 1), (z, 2)), ((z, 2),), ()), (False, False, True)))

    def test_what_is_complete(self):
        one = table_of(choice((), letters("a b x", "b a x")))
        other = table_of(choice((), letters("c d x")))
        table = behind(one, other)
        for run, end in [([], True), (["a b x"], False), (["a b x", "b a x"], True), (["a b x", "b a x", "c d x"], True),
                         (["c d x"], True)]:
            self.assertIs(table[2][state_behind(table, acts(*run))], end)
        self.assertIsNone(state_behind(table, acts("a b x", "c d x")))
        self.assertIsNone(state_behind(table, acts("c d x", "a b x")))

    def test_the_same_actions(self):
        self.assertEqual(behind(LOOP, LOOP), LOOP)
        self.assertEqual(behind(LOOP, chain([X])), ("table", (((X, 1),), ((X, 1),)), (False, True)))
        self.assertEqual(behind(chain([X]), LOOP), ("table", (((X, 1),), ((X, 2),), ((X, 2),)), (False, True, True)))
        one = table_of(choice(letters("a b x"), letters("a b x", "a b y")))
        self.assertEqual(behind(one, chain([Y, X])), (
            "table", (((X, 1),), ((Y, 2),), ((X, 3), (Y, 4)), (), ((X, 3),)), (False, False, False, True, False)
        ))

    def test_a_run_leads_to_the_start_of_the_other_where_it_is_complete(self):
        # Behind x, which is complete in one, nothing of the other has been done, or x of it, which leads back to its start.
        other = ("table", (((X, 0), (Y, 1)), ()), (False, True))
        table = behind(LOOP, other)
        self.assertEqual(table, ("table", (((X, 0), (Y, 1)), ()), (False, True)))
        self.assertEqual(table, told_behind(LOOP, other))

    def test_it_is_what_steps_behind_one_another_are(self):
        for number, body in enumerate(small_bodies(165, 80, 2, most=6)):
            for other in small_bodies(166 + number, 3, 2, most=6):
                table = behind(table_of(body), table_of(other))
                self.assertIsNone(difference(table, table_of(body + other)))

    def test_all_tables(self):
        tables = random_tables(167, 200, most=5)
        for one, other in zip(tables, tables[1:]):
            before = copy.deepcopy((one, other))
            table = behind(one, other)
            self.assertEqual((one, other), before)
            self.assertIsNone(fault_of_form(table))
            self.assertEqual(table, told_behind(one, other))

    def test_all_short_lists(self):
        tables = random_tables(168, 60, actions=acts("a b x", "b a x", "c d x"), most=4)
        for one, other in zip(tables, tables[1:]):
            table = behind(one, other)
            for run in lists_of(actions_of(one, other), 5):
                states = behind_states(one, other, run)
                state = state_behind(table, run)
                self.assertIs(state is not None, bool(states))
                if states:
                    self.assertIs(table[2][state], any(kind == "other" and other[2][at] for kind, at in states))

    def test_three_hundred_sets_and_more(self):
        z = act("c d z")
        for many, more in [(149, 150), (299, 0), (0, 299), (150, 149)]:
            self.assertEqual(behind(chain([X] * many), chain([z] * more)), chain([X] * many + [z] * more))
        for many, more in [(150, 150), (300, 0), (0, 300), (299, 1)]:
            with self.assertRaises(TooLarge):
                behind(chain([X] * many), chain([z] * more))

    def test_the_numbers_of_states_do_not_count(self):
        self.assertEqual(behind(ring(300), EMPTY), ring(300))
        self.assertEqual(len(behind(ring(200), ("table", (((Y, 1),), ()), (True, True)))[1]), 201)
        with self.assertRaises(TooLarge):
            behind(ring(301), EMPTY)

    def test_sets_that_double(self):
        either = choice(letters("a b x"), letters("a b y"))
        one, other = table_of(loop(either)), table_of(letters("a b x") + either * 7)
        self.assertLess(len(one[1]) + len(other[1]), 12)
        self.assertEqual(len(behind(one, other)[1]), 256)
        with self.assertRaises(TooLarge):
            behind(one, table_of(letters("a b x") + either * 8))


class TestBothTogether(unittest.TestCase):
    def test_protocols_without_a_party_in_common(self):
        others = {"a": "e", "b": "f", "c": "g", "d": "h"}
        told_of = set()
        tables = [table for table in small_tables(169, 120) if len(table[1]) <= 6]
        for number, chance in enumerate(chances(170, 150)):
            one, other = chance.choice(tables), renamed(chance.choice(tables), others)
            accepted = check(one) == ("fine",), check(other) == ("fine",)
            self.assertIs(check(beside(one, other)) == ("fine",), accepted == (True, True))
            told_of.add(accepted)
        self.assertEqual(len(told_of), 4)

    def test_they_need_not_be_least(self):
        one = ("table", (((X, 1),), ((X, 1),)), (True, True))
        self.assertEqual(behind(one, EMPTY), one)
        self.assertEqual(beside(EMPTY, one), one)
        self.assertEqual(least(beside(one, one)), LOOP)


if __name__ == "__main__":
    unittest.main()
