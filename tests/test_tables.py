import copy
import random
import unittest

from oracle import fault_of_form, firsts, is_beginning, is_whole, letters_in, lists_of, sorted_firsts
from pactloom.errors import TooLarge
from pactloom.meaning import may_end, steps_of
from pactloom.printing import print_body
from pactloom.tables import difference, graph_of, least, table_of, walk
from samples import act, letters, random_bodies

X = letters("a b x")
Y = letters("b a y")
AX, AY, AZ = act("a b x"), act("b a y"), act("c b z")
EMPTY = ("table", ((),), (True,))


def many_letters(many):
    """A body of many letters, one behind the other."""
    return tuple(("letter", "a", "b", f"x{number}") for number in range(many))


def wide(many):
    """A body that must remember the last many of its actions, so that its table grows by doubling."""
    either = ("choice", (X, Y))
    return (("loop", (either,)), *X) + (either,) * many


def chain(many, ends=()):
    """A table of many states, one behind the other; the last of them is an end."""
    rows = tuple(((AX, state + 1),) if state + 1 < many else () for state in range(many))
    return ("table", rows, tuple(state in ends or state + 1 == many for state in range(many)))


def unfolded(table, chance):
    """A table with the same runs in which some states stand several times."""
    _, rows, ends = table
    copies = [(0, 0)]
    new_rows = []
    for state, _ in copies:
        row = []
        for action, target in rows[state]:
            copy_of_target = (target, chance.randrange(3))
            if copy_of_target not in copies:
                copies.append(copy_of_target)
            row.append((action, copies.index(copy_of_target)))
        new_rows.append(tuple(row))
    return ("table", tuple(new_rows), tuple(ends[state] for state, _ in copies))


def short_bodies(seed, many):
    """Bodies, with actions enough to tell lists of them apart."""
    return [(body, letters_in(body)[:3] + [act("a b no")]) for body in random_bodies(seed, many)]


class TestGraphs(unittest.TestCase):
    def test_the_graph_of_an_empty_body(self):
        self.assertEqual(graph_of(()), [((), [], True)])

    def test_states_with_pairs_and_ends(self):
        body = X + (("loop", Y),)
        self.assertEqual(graph_of(body), [
            (body, [(AX, body[1:])], False),
            (body[1:], [(AY, body[1:])], True),
        ])

    def test_states_once_in_the_order_of_their_printed_forms(self):
        self.assertEqual(graph_of((("both", (X, Y)),)), [
            ((), [], True),
            (X, [(AX, ())], False),
            (Y, [(AY, ())], False),
            ((("both", (X, Y)),), [(AX, Y), (AY, X)], False),
        ])
        self.assertEqual(graph_of((("choice", (X + X, Y + X)),)), [
            ((), [], True),
            (X, [(AX, ())], False),
            ((("choice", (X + X, Y + X)),), [(AX, X), (AY, X)], False),
        ])

    def test_all_graphs(self):
        for body in random_bodies(3, 150):
            states = {print_body(body): body}
            waiting = [body]
            while waiting:
                for _, rest in firsts(waiting.pop()):
                    if print_body(rest) not in states:
                        states[print_body(rest)] = rest
                        waiting.append(rest)
            if len(states) <= 300:
                expected = [(states[text], sorted_firsts(states[text]), is_whole(states[text], ()))
                            for text in sorted(states)]
                self.assertEqual(graph_of(body), expected)

    def test_pairs_and_ends_are_as_the_meaning_tells(self):
        for body in random_bodies(4, 50):
            for state, pairs, end in graph_of(body):
                self.assertEqual(pairs, steps_of(state))
                self.assertIs(end, may_end(state))

    def test_three_hundred_states_and_more(self):
        self.assertEqual(len(graph_of(many_letters(299))), 300)
        pair = (("both", (many_letters(2), tuple(("letter", "c", "d", f"y{at}") for at in range(99)))),)
        self.assertEqual(len(graph_of(pair)), 300)
        for body in [many_letters(300), pair + X, (("both", ((many_letters(99)), many_letters(3))),), wide(300)]:
            with self.assertRaises(TooLarge):
                graph_of(body)

    def test_what_grows_fast_is_refused_soon(self):
        with self.assertRaises(TooLarge):
            graph_of((("both", tuple((step,) for step in many_letters(200))),))

    def test_each_call_gives_new_lists(self):
        first = graph_of(X)
        first[0][1].append("more")
        first.clear()
        self.assertEqual(graph_of(X), [((), [], True), (X, [(AX, ())], False)])


class TestTables(unittest.TestCase):
    def test_example_of_the_interface(self):
        self.assertEqual(table_of((("loop", X),)), ("table", (((AX, 0),),), (True,)))

    def test_small_tables(self):
        self.assertEqual(table_of(()), EMPTY)
        self.assertEqual(table_of(X), ("table", (((AX, 1),), ()), (False, True)))
        self.assertEqual(table_of(X + Y), ("table", (((AX, 1),), ((AY, 2),), ()), (False, False, True)))
        self.assertEqual(table_of((("choice", ((), X)),)), ("table", (((AX, 1),), ()), (True, True)))

    def test_a_choice_whose_branches_begin_with_the_same_action(self):
        body = (("choice", (X + Y, X + X, X)),)
        self.assertEqual(table_of(body), ("table", (((AX, 1),), ((AX, 2), (AY, 2)), ()), (False, True, True)))
        body = (("choice", (X + Y, X + (("loop", Y),))),)
        table = ("table", (((AX, 1),), ((AY, 2),), ((AY, 3),), ((AY, 3),)), (False, True, True, True))
        self.assertEqual(table_of(body), table)

    def test_the_order_in_which_states_are_numbered(self):
        both = (("both", (letters("b a y"), letters("a b x"), letters("a b y"))),)
        one, two, three = act("a b x"), act("a b y"), act("b a y")
        self.assertEqual(table_of(both), ("table", (
            ((one, 1), (two, 2), (three, 3)),
            ((two, 4), (three, 5)),
            ((one, 4), (three, 6)),
            ((one, 5), (two, 6)),
            ((three, 7),),
            ((two, 7),),
            ((one, 7),),
            (),
        ), (False,) * 7 + (True,)))

    def test_a_state_found_late_has_a_late_number(self):
        body = (("choice", (letters("a b y"), letters("a b x", "a b y", "a b x"))),)
        x, y = act("a b x"), act("a b y")
        self.assertEqual(table_of(body),
                         ("table", (((x, 1), (y, 2)), ((y, 3),), (), ((x, 2),)), (False, False, True, False)))

    def test_a_set_of_states_is_one_state_in_whatever_order_it_is_found(self):
        one, two = letters("a b x1"), letters("a b x2")
        early, late = X + two, (("choice", (X + one,)),)
        zz, yy = letters("b a z"), letters("b a y")
        table = table_of((("choice", (zz + early, zz + late, yy + one, yy + two)),))
        self.assertEqual(table, ("table", (
            ((yy[0][1:], 1), (zz[0][1:], 2)),
            ((one[0][1:], 3), (two[0][1:], 3)),
            ((AX, 1),),
            (),
        ), (False, False, False, True)))

    def test_equal_rests_are_one_state(self):
        self.assertEqual(len(table_of((("choice", (X + Y, Y + Y)),))[1]), 3)
        # These two rests have the same runs, but the table of a body does not look at runs.
        self.assertEqual(len(table_of((("choice", (X + Y, Y + (("choice", (Y,)),))),))[1]), 4)

    def test_all_tables(self):
        for body, actions in short_bodies(5, 150):
            if len(graph_of(body)) > 50:
                continue
            table = table_of(body)
            self.assertIsNone(fault_of_form(table), body)
            for found in lists_of(actions, 4):
                state = walk(table, found)
                self.assertIs(state is not None, is_beginning(body, tuple(found)))
                self.assertIs(state is not None and table[2][state], is_whole(body, tuple(found)))

    def test_three_hundred_states_of_the_graph_and_more(self):
        self.assertEqual(len(table_of(many_letters(299))[1]), 300)
        with self.assertRaises(TooLarge):
            table_of(many_letters(300))

    def test_three_hundred_sets_of_states_and_more(self):
        self.assertEqual(len(table_of(wide(7))[1]), 256)
        # A table of 256 states behind 44 others, and behind 45.
        self.assertEqual(len(table_of(many_letters(44) + wide(7))[1]), 300)
        self.assertLess(len(graph_of(many_letters(45) + wide(7))), 300)
        for body in [many_letters(45) + wide(7), wide(8), wide(20)]:
            with self.assertRaises(TooLarge):
                table_of(body)

    def test_a_body_stays_as_it_is(self):
        body = wide(2)
        before = copy.deepcopy(body)
        table_of(body)
        graph_of(body)
        self.assertEqual(body, before)


class TestWalking(unittest.TestCase):
    def test_runs_and_lists_that_are_none(self):
        table = ("table", (((AX, 1),), ((AY, 2),), ((AX, 1),)), (False, True, False))
        self.assertEqual(walk(table, []), 0)
        self.assertEqual(walk(table, [AX]), 1)
        self.assertEqual(walk(table, [AX, AY]), 2)
        self.assertEqual(walk(table, [AX, AY, AX]), 1)
        self.assertEqual(walk(table, [AX, AY] * 1000), 2)
        for found in [[AY], [AX, AX], [AX, AY, AY], [AX, AZ], [AZ], [AY, AX]]:
            self.assertIsNone(walk(table, found))
        self.assertEqual(walk(EMPTY, []), 0)
        self.assertIsNone(walk(EMPTY, [AX]))

    def test_a_list_stays_as_it_is(self):
        actions = [AX, AY]
        walk(table_of(X), actions)
        self.assertEqual(actions, [AX, AY])


class TestLeastTables(unittest.TestCase):
    def test_a_table_with_alike_states(self):
        table = ("table", (((AX, 1), (AY, 2)), ((AX, 3),), ((AX, 3),), ()), (False, False, False, True))
        self.assertEqual(least(table), ("table", (((AX, 1), (AY, 1)), ((AX, 2),), ()), (False, False, True)))
        table = ("table", (((AX, 1),), ((AX, 2),), ((AX, 0),)), (True, True, True))
        self.assertEqual(least(table), ("table", (((AX, 0),),), (True,)))
        table = ("table", (((AX, 1),), ((AX, 2),), ((AX, 3),), ((AX, 0),)), (True, False, True, False))
        self.assertEqual(least(table), ("table", (((AX, 1),), ((AX, 0),)), (True, False)))

    def test_states_that_differ_in_what_is_complete_only(self):
        table = ("table", (((AX, 1),), ((AX, 1),)), (False, True))
        self.assertEqual(least(table), table)

    def test_states_that_differ_in_what_they_lead_to_only(self):
        table = ("table", (((AX, 1), (AY, 2)), ((AX, 3),), ((AX, 4),), (), ((AX, 3),)), (False,) * 3 + (True, True))
        self.assertEqual(least(table), table)

    def test_tables_that_are_least(self):
        for table in [EMPTY, chain(1), chain(5), chain(5, (1, 2)), table_of(wide(4)), chain(300), chain(900)]:
            self.assertEqual(least(table), table)

    def test_states_are_numbered_anew(self):
        # States 1 and 2 are alike; so 3, found behind them, becomes 2, and 4 becomes 3.
        table = ("table", (((AX, 1), (AY, 2)), ((AX, 4), (AY, 3)), ((AX, 4), (AY, 3)), ((AX, 3),), ((AY, 4),)),
                 (False, False, False, True, True))
        self.assertEqual(least(table), ("table", (((AX, 1), (AY, 1)), ((AX, 2), (AY, 3)), ((AY, 2),), ((AX, 3),)),
                                        (False, False, True, True)))

    def test_all_least_tables(self):
        chance = random.Random(6)
        for body in random_bodies(7, 150):
            table = table_of(body)
            smallest = least(table)
            self.assertIsNone(fault_of_form(smallest))
            self.assertIsNone(difference(table, smallest))
            self.assertEqual(least(smallest), smallest)
            for _ in range(3):
                other = unfolded(table, chance)
                self.assertIsNone(fault_of_form(other))
                self.assertEqual(least(other), smallest)
            states = range(len(smallest[1]))
            for one in states:
                for other in range(one):
                    self.assertTrue(told_apart(smallest, one, other), (smallest, one, other))

    def test_equal_least_tables_and_only_they_have_no_difference(self):
        tables = [table_of(body) for body in random_bodies(8, 60, 1)]
        for one in tables:
            for other in tables:
                self.assertIs(least(one) == least(other), difference(one, other) is None)

    def test_a_table_stays_as_it_is(self):
        table = unfolded(table_of(wide(2)), random.Random(1))
        before = copy.deepcopy(table)
        least(table)
        difference(table, table)
        self.assertEqual(table, before)


def told_apart(table, one, other):
    """Whether some list of actions leads on from one of two states only, or to an end from one of them only."""
    pairs = [(one, other)]
    for left, right in pairs:
        if table[2][left] != table[2][right]:
            return True
        left, right = dict(table[1][left]), dict(table[1][right])
        if list(left) != list(right):
            return True
        pairs += [pair for pair in dict.fromkeys((left[x], right[x]) for x in left) if pair not in pairs]
    return False


class TestDifferences(unittest.TestCase):
    def differ(self, one, other, kind, actions):
        self.assertEqual(difference(one, other), (kind, actions))
        self.assertEqual(difference(other, one), (kind, actions))

    def test_none(self):
        self.assertIsNone(difference(EMPTY, EMPTY))
        twice = ("table", (((AX, 1),), ((AX, 0),)), (True, True))
        self.assertIsNone(difference(twice, table_of((("loop", X),))))
        self.assertIsNone(difference(table_of((("both", (X, Y)),)), table_of((("choice", (X + Y, Y + X)),))))

    def test_a_run_of_only_one(self):
        self.differ(EMPTY, table_of((("loop", X),)), "run", [AX])
        self.differ(table_of(X + X), table_of(X + Y), "run", [AX, AX])
        self.differ(table_of(X + Y), table_of(X + (("choice", (Y, letters("c b z"))),)), "run", [AX, AZ])

    def test_complete_in_only_one(self):
        self.differ(EMPTY, table_of(X), "whole", [])
        self.differ(chain(4), chain(4, (2,)), "whole", [AX, AX])
        self.differ(table_of((("loop", X),)), table_of((("loop", X + X),)), "whole", [AX])

    def test_the_shortest(self):
        one = table_of((("choice", (X + X + X, Y + X)),))
        other = table_of((("choice", (X + X + Y, Y + Y)),))
        self.differ(one, other, "run", [AY, AX])
        self.differ(chain(4, (1, 2)), chain(5, (2,)), "whole", [AX])
        self.differ(chain(3), chain(4), "whole", [AX, AX])

    def test_the_least_of_the_shortest(self):
        x, y, z = act("a b x"), act("a b y"), act("a b z")
        one = ("table", (((x, 1), (y, 2), (z, 1)), (), ()), (False, True, True))
        self.differ(one, ("table", (((x, 1), (y, 2), (z, 1)), (), ((x, 1),)), (False, True, False)), "whole", [y])
        self.differ(one, ("table", (((z, 1),), ()), (False, True)), "run", [x])
        self.differ(one, ("table", (((x, 1), (y, 1)), ((x, 1),)), (False, True)), "run", [z])
        # A list of kind run and one of kind whole, as long as each other, in both orders.
        left = ("table", (((x, 1), (y, 2)), (), ((x, 1),)), (True, True, True))
        self.differ(left, ("table", (((x, 1),), ((x, 2),), ()), (True, False, True)), "whole", [x])
        self.differ(left, ("table", (((y, 1),), ((y, 2),), ()), (True, False, True)), "run", [x])
        deep = ("table", (((x, 1), (y, 1)), ((x, 2),), ()), (True, True, True))
        self.differ(deep, ("table", (((x, 1), (y, 2)), ((x, 3),), ((y, 3),), ()), (True,) * 4), "run", [y, x])

    def test_all_differences(self):
        tables = [table_of(body) for body, _ in short_bodies(9, 45)]
        tables += [least(table) for table in tables]
        for one in tables:
            for other in tables:
                found = difference(one, other)
                self.assertEqual(found, difference(other, one))
                if found is None or len(found[1]) < 4:
                    self.assertEqual(found, first_difference(one, other, 3))
                else:
                    self.assertIsNone(first_difference(one, other, 3))
                    self.assertTrue(tells_apart(one, other, found[1]))


def first_difference(one, other, longest):
    """Point 16 among the lists up to a length, by trying one list after the other."""
    actions = {action for table in (one, other) for row in table[1] for action, _ in row}
    for found in lists_of(actions, longest):
        kind = tells_apart(one, other, found)
        if kind:
            return (kind, found)
    return None


def tells_apart(one, other, actions):
    """The kind of the difference that the list shows, None if it shows none."""
    left, right = walk(one, actions), walk(other, actions)
    if left is None or right is None:
        return None if left == right else "run"
    return None if one[2][left] == other[2][right] else "whole"


if __name__ == "__main__":
    unittest.main()
