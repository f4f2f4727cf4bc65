import copy
import itertools
import unittest

from oracle import everyone, letters_in, situations, states_seen
from pactloom.errors import TooLarge
from pactloom.joining import joint_states
from pactloom.tables import table_of, walk
from pactloom.views import machine_of, view
from samples import act, acts, both, choice, letters, loop, random_bodies

EMPTY = ("table", ((),), (True,))


def grid(*lengths):
    """The table of pairs of parties that each have so many letters to hand on, all independent of one another."""
    places = list(itertools.product(*[range(length + 1) for length in lengths]))
    numbers = {place: number for number, place in enumerate(places)}
    rows = []
    for place in places:
        row = []
        for pair, done in enumerate(place):
            if done < lengths[pair]:
                behind = place[:pair] + (done + 1,) + place[pair + 1:]
                row.append(((f"p{pair}", f"q{pair}", "x"), numbers[behind]))
        rows.append(tuple(row))
    return ("table", tuple(rows), (False,) * (len(places) - 1) + (True,))


def with_one_more(table):
    """The table with one more letter of two other parties behind its last state."""
    _, rows, ends = table
    last = ((("y", "z", "x"), len(rows)),)
    return ("table", rows[:-1] + (last, ()), ends[:-1] + (False, True))


def joints_told_again(table):
    """Point 20, by going through the list of the joint states that grows on the way."""
    parties = everyone(table)
    machines = [table] + [machine_of(table, party) for party in parties]
    found = [((0,) * len(machines), [])]
    for joint, run in found:
        for action, _ in table[1][joint[0]]:
            movers = [True] + [party in action[:2] for party in parties]
            behind = tuple(
                dict(machine[1][at])[action] if moves else at for machine, at, moves in zip(machines, joint, movers)
            )
            if behind not in [known for known, _ in found]:
                found.append((behind, run + [action]))
    return found


class TestJointStates(unittest.TestCase):
    def test_no_parties(self):
        self.assertEqual(joint_states(EMPTY), [((0,), [])])

    def test_two_parties_that_see_everything(self):
        x, y = act("a b x"), act("b a y")
        table = table_of(letters("a b x", "b a y"))
        self.assertEqual(joint_states(table), [((0, 0, 0), []), ((1, 1, 1), [x]), ((2, 2, 2), [x, y])])

    def test_machines_that_stay(self):
        table = table_of(letters("a b x", "c b x", "c a x"))
        runs = [acts("a b x", "c b x", "c a x")[:many] for many in range(4)]
        self.assertEqual(joint_states(table), list(zip(
            [(0, 0, 0, 0), (1, 1, 1, 0), (2, 1, 2, 1), (3, 2, 2, 2)], runs
        )))

    def test_the_parties_stand_in_ascending_order(self):
        table = table_of(letters("c a x", "b a x"))
        self.assertEqual([joint for joint, _ in joint_states(table)], [(0, 0, 0, 0), (1, 1, 0, 1), (2, 2, 1, 1)])

    def test_the_order_in_which_they_are_found(self):
        x, y = act("a b x"), act("c d y")
        table = table_of(both(letters("c d y"), letters("a b x")))
        self.assertEqual(joint_states(table), [
            ((0, 0, 0, 0, 0), []), ((1, 1, 1, 0, 0), [x]), ((2, 0, 0, 1, 1), [y]), ((3, 1, 1, 1, 1), [x, y]),
        ])

    def test_the_run_by_which_one_was_found_first(self):
        x, y, z = act("a b x"), act("a b y"), act("b a z")
        table = table_of(choice(letters("a b y"), letters("a b x", "b a z"), letters("a b x", "a b y")))
        self.assertEqual(table, ("table", (((x, 1), (y, 2)), ((y, 2), (z, 2)), ()), (False, False, True)))
        self.assertEqual(joint_states(table), [((0, 0, 0), []), ((1, 1, 1), [x]), ((2, 2, 2), [y])])

    def test_a_loop_comes_back(self):
        table = table_of(loop(letters("a b x", "b c x")))
        self.assertEqual(joint_states(table), [((0, 0, 0, 0), []), ((1, 0, 1, 0), acts("a b x"))])

    def test_one_state_of_the_table_in_several_joint_states(self):
        table = ("table", (((act("a b x"), 1), (act("a b y"), 1)), ((act("b c z"), 1), (act("c a u"), 0))), (True, True))
        joints = [joint for joint, _ in joint_states(table)]
        self.assertEqual(len(joints), len(set(joints)))
        self.assertEqual(joints, [joint for joint, _ in joints_told_again(table)])

    def test_all_joint_states(self):
        for body in random_bodies(21, 150):
            table = table_of(body)
            if len(table[1]) <= 30:
                self.assertEqual(joint_states(table), joints_told_again(table))

    def test_all_that_can_be_seen_together_is_met(self):
        for body in random_bodies(22, 60):
            table = table_of(body)
            if len(table[1]) <= 12 and len(letters_in(body)) <= 6:
                self.check_all_are_met(table)

    def check_all_are_met(self, table):
        parties = everyone(table)
        joints = {joint for joint, _ in joint_states(table)}
        machines = {party: machine_of(table, party) for party in parties}
        for run in situations(table):
            joint = (walk(table, run), *(walk(machines[party], view(run, party)) for party in parties))
            self.assertIn(joint, joints)
            for party, state in zip(parties, joint[1:]):
                ends = any(table[2][at] for at in states_seen(table, run, party))
                self.assertIs(machines[party][2][state], ends)

    def test_three_thousand_and_more(self):
        table = grid(4, 4, 4, 3, 2, 1)
        joints = joint_states(table)
        self.assertEqual(len(joints), 3000)
        self.assertEqual(joints[-1][0], (2999, 4, 4, 4, 3, 2, 1, 4, 4, 4, 3, 2, 1))
        with self.assertRaises(TooLarge):
            joint_states(with_one_more(table))

    def test_a_machine_that_is_too_large(self):
        rows = tuple(((act("a b x"), state + 1),) for state in range(300)) + ((),)
        with self.assertRaises(TooLarge):
            joint_states(("table", rows, (False,) * 300 + (True,)))

    def test_a_table_stays_as_it_is(self):
        table = table_of(both(letters("a b x", "b c x"), letters("c a x")))
        before = copy.deepcopy(table)
        joint_states(table)[0][1].append("more")
        self.assertEqual(table, before)
        self.assertEqual(joint_states(table)[0], ((0, 0, 0, 0), []))


if __name__ == "__main__":
    unittest.main()
