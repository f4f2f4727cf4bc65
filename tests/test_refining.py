import copy
import random
import unittest

from oracle import state_behind
from pactloom.checking import check, unready
from pactloom.plays import Play
from pactloom.refining import judge_refining, refining_fault
from pactloom.tables import table_of
from pactloom.views import machines_of
from players import accepted_tables, chances, play_on, random_machines, table_from
from samples import act, acts, choice, letters, loop

X, Y, TAKE_X, TAKE_Y = act("a b x"), act("a b y"), act("b a x"), act("b a y")
REST = ("table", ((),), (True,))
SILENT = ("table", ((),), (False,))


def pairs_that_refine(first, second, party):
    """Point 41, by leaving out pairs until none is at fault: the largest set of pairs, whatever leads to them."""
    pairs = {(at, to) for at in range(len(first[1])) for to in range(len(second[1]))}
    while True:
        left = {pair for pair in pairs if not faults(first, second, party, *pair) and stays(first, second, party, pair, pairs)}
        if left == pairs:
            return pairs
        pairs = left


def faults(first, second, party, at, to):
    """Point 43: the faults at a state of the first and a state of the second."""
    own, others = dict(first[1][at]), dict(second[1][to])
    found = [("send", action) for action in own if action[0] == party and action not in others]
    found += [("take", action) for action in others if action[1] == party and action not in own]
    if first[2][at] and not second[2][to]:
        found.append(("rest",))
    sends, other_sends = [any(action[0] == party for action in row) for row in (own, others)]
    if not (first[2][at] or sends) and (second[2][to] or other_sends):
        found.append(("silent",))
    return found


def stays(first, second, party, pair, pairs):
    """Do the sends of the first and the takes of the second lead to pairs of the set?"""
    own, others = dict(first[1][pair[0]]), dict(second[1][pair[1]])
    moves = [action for action in own if action[0] == party] + [action for action in others if action[1] == party]
    return all((own[action], others[action]) in pairs for action in moves)


def holds(first, second, party, certificate):
    """Point 43: does everything hold that the certificate says?"""
    actions, fault = certificate
    at = to = 0
    for action in actions:
        own, others = dict(first[1][at]), dict(second[1][to])
        if action not in own or action not in others or party not in action[:2]:
            return False
        at, to = own[action], others[action]
    return fault in faults(first, second, party, at, to)


class TestRefining(unittest.TestCase):
    def faulty(self, first, second, party="a"):
        """The kind of the fault and the actions to it."""
        found = refining_fault(first, second, party)
        self.assertEqual((type(found), type(found[0]), type(found[1])), (tuple, list, tuple))
        self.assertIs(judge_refining(first, second, party, found), True)
        return (found[0], *found[1])

    def test_a_machine_refines_itself(self):
        for machine in random_machines(101, 60):
            for party in "abcd":
                self.assertIsNone(refining_fault(machine, machine, party))

    def test_fewer_sends(self):
        one = table_of(choice(letters("a b x"), letters("a b y")))
        self.assertIsNone(refining_fault(table_of(letters("a b x")), one, "a"))
        self.assertEqual(self.faulty(one, table_of(letters("a b x"))), ([], "send", Y))

    def test_more_takes(self):
        one = table_of(choice(letters("a b x"), letters("a b y")))
        self.assertIsNone(refining_fault(one, table_of(letters("a b x")), "b"))
        self.assertEqual(self.faulty(table_of(letters("a b x")), one, "b"), ([], "take", Y))

    def test_takes_that_only_the_first_has_may_lead_anywhere(self):
        first = table_of(choice(letters("a b x"), letters("a b y", "b a z", "a b z")))
        self.assertIsNone(refining_fault(first, table_of(letters("a b x")), "b"))

    def test_the_first_may_rest_alone(self):
        self.assertEqual(self.faulty(table_of(choice((), letters("a b x"))), table_of(letters("a b x"))), ([], "rest"))
        self.assertEqual(self.faulty(REST, SILENT), ([], "rest"))

    def test_the_second_may_rest_alone(self):
        may_rest = table_of(choice((), letters("a b x")))
        self.assertIsNone(refining_fault(table_of(letters("a b x")), may_rest, "a"))
        self.assertEqual(self.faulty(table_of(letters("a b x")), may_rest, "b"), ([], "silent"))
        self.assertEqual(self.faulty(SILENT, REST), ([], "silent"))

    def test_a_silent_one_for_one_that_can_send(self):
        first = ("table", (((TAKE_X, 1),), ()), (False, True))
        second = ("table", (((X, 1), (TAKE_X, 1)), ()), (False, True))
        self.assertEqual(self.faulty(first, second), ([], "silent"))
        self.assertIsNone(refining_fault(first, ("table", (((TAKE_X, 1),), ()), (False, True)), "a"))
        self.assertIsNone(refining_fault(SILENT, SILENT, "a"))

    def test_one_that_may_rest_for_one_that_can_send_and_rest(self):
        self.assertIsNone(refining_fault(REST, table_of(choice((), letters("a b x"))), "a"))
        self.assertIsNone(refining_fault(REST, table_of(loop(letters("a b x"))), "a"))

    def test_the_actions_lead_to_the_fault(self):
        first, second = table_of(letters("a b x", "b a x", "a b y")), table_of(letters("a b x", "b a x", "a b x"))
        self.assertEqual(self.faulty(first, second), ([X, TAKE_X], "send", Y))
        self.assertEqual(self.faulty(second, first, "b"), ([X, TAKE_X], "take", Y))
        first = table_of(letters("a b x") + choice((), letters("a b x")))
        self.assertEqual(self.faulty(first, table_of(letters("a b x", "a b x"))), ([X], "rest"))

    def test_what_only_the_second_can_send_leads_nowhere(self):
        second = table_of(choice(letters("a b x"), letters("a b y", "b a z")))
        self.assertIsNone(refining_fault(table_of(letters("a b x")), second, "a"))

    def test_loops(self):
        for_ever = ("table", (((X, 0),),), (False,))
        self.assertIsNone(refining_fault(for_ever, table_of(loop(letters("a b x"))), "a"))
        self.assertIsNone(refining_fault(for_ever, table_of(loop(letters("a b x")) + letters("a b y")), "a"))
        self.assertEqual(self.faulty(table_of(loop(letters("a b x"))), for_ever), ([], "rest"))
        twice = ("table", (((X, 1),), ((X, 0),)), (True, True))
        self.assertIsNone(refining_fault(twice, table_of(loop(letters("a b x"))), "a"))
        self.assertIsNone(refining_fault(table_of(loop(letters("a b x"))), twice, "a"))

    def test_states_of_the_first_that_are_not_reached(self):
        first = ("table", (((X, 1),), (), ((Y, 2),)), (False, True, False))
        self.assertIsNone(refining_fault(first, table_of(letters("a b x")), "a"))

    def test_a_party_that_sees_nothing(self):
        self.assertIsNone(refining_fault(table_of(letters("a b x")), table_of(letters("b a y")), "c"))
        self.assertEqual(self.faulty(REST, table_of(letters("a b x")), "c"), ([], "rest"))

    def test_all_refining(self):
        kinds = set()
        machines = random_machines(102, 60) + [without_something(random.Random(at), machine)
                                               for at, machine in enumerate(random_machines(102, 60))]
        for first in machines:
            for second in machines[::3]:
                for party in "ab":
                    found = refining_fault(first, second, party)
                    self.assertIs(found is None, (0, 0) in pairs_that_refine(first, second, party))
                    if found is not None:
                        self.assertIs(holds(first, second, party, found), True)
                        kinds.add((len(found[0]) > 0, found[1][0]))
        self.assertEqual(kinds, {(far, kind) for far in (False, True) for kind in ("send", "take", "rest", "silent")})

    def test_machines_stay_as_they_are(self):
        first, second = table_of(letters("a b x", "a b y")), table_of(letters("a b x", "a b x"))
        before = copy.deepcopy((first, second))
        refining_fault(first, second, "a")
        self.assertEqual((first, second), before)


class TestJudging(unittest.TestCase):
    FIRST = table_of(choice(letters("a b x", "b a x", "a b x"), letters("b a y", "a b y"), letters("b c x")))
    SECOND = table_of(choice(letters("a b x", "b a x", "a b y"), letters("b a y"), letters("b c x")))

    def judged(self, actions, fault, party="a", first=FIRST, second=SECOND):
        judged = judge_refining(first, second, party, (actions, fault))
        self.assertIs(judged, holds(first, second, party, (actions, fault)))
        return judged

    def test_certificates_that_hold(self):
        self.assertIs(self.judged([X, TAKE_X], ("send", X)), True)
        self.assertIs(self.judged([TAKE_Y], ("send", Y)), True)
        self.assertIs(self.judged([X, TAKE_X], ("take", Y), "b"), True)
        self.assertIs(self.judged([TAKE_Y], ("silent",), "b"), True)
        self.assertIs(self.judged([TAKE_Y], ("rest",), "a", self.SECOND, self.FIRST), True)

    def test_faults_of_other_states(self):
        for actions in [[], [X], [TAKE_Y], [X, TAKE_X, X]]:
            self.assertIs(self.judged(actions, ("send", X)), False)
        self.assertIs(self.judged([], ("rest",), "a", self.SECOND, self.FIRST), False)
        self.assertIs(self.judged([], ("silent",), "b"), False)

    def test_other_faults_of_the_states(self):
        for fault in [("send", Y), ("take", X), ("take", Y), ("send", TAKE_X), ("rest",), ("silent",), ("send", act("a b z"))]:
            self.assertIs(self.judged([X, TAKE_X], fault), False)
        self.assertIs(self.judged([X, TAKE_X], ("take", X), "b"), False)
        self.assertIs(self.judged([X, TAKE_X], ("send", X), "b"), False)

    def test_actions_that_do_not_lead_through_both(self):
        self.assertIs(self.judged([X, TAKE_X, X], ("rest",)), False)
        self.assertIs(self.judged([X, TAKE_X, Y], ("silent",)), False)
        self.assertIs(self.judged([act("a b z")], ("send", X)), False)

    def test_actions_of_others(self):
        first = table_of(letters("b c x", "a b x"))
        second = table_of(letters("b c x", "a b y"))
        self.assertIs(self.judged(acts("b c x"), ("send", X), "a", first, second), False)
        self.assertIs(self.judged(acts("b c x"), ("take", Y), "b", first, second), True)
        self.assertIsNone(refining_fault(first, second, "c"))

    def test_the_second_may_send_where_the_first_is_silent(self):
        second = ("table", (((X, 0),),), (False,))
        self.assertIs(self.judged([], ("silent",), "a", SILENT, second), True)
        self.assertIs(self.judged([], ("silent",), "b", SILENT, second), False)
        self.assertIs(self.judged([], ("silent",), "a", SILENT, SILENT), False)
        self.assertIs(self.judged([], ("silent",), "a", REST, second), False)
        self.assertIs(self.judged([], ("silent",), "a", second, REST), False)

    def test_certificates_of_other_machines(self):
        chance = random.Random(103)
        judged = {True: 0, False: 0}
        machines = random_machines(104, 100)
        for first in machines:
            second = chance.choice(machines)
            party = chance.choice("ab")
            found = refining_fault(first, second, party)
            if found is not None:
                self.assertIs(self.judged(*found, party, first, second), True)
                for _ in range(10):
                    actions = chance.choice([found[0], found[0][:-1], found[0] + [chance.choice([X, Y, TAKE_X])]])
                    fault = chance.choice([found[1], ("rest",), ("silent",), ("send", X), ("take", TAKE_X), ("take", TAKE_Y)])
                    other = chance.choice([first, chance.choice(machines)])
                    judged[self.judged(actions, fault, party, other, second)] += 1
        self.assertGreater(min(judged.values()), 100)

    def test_what_is_judged_stays_as_it_is(self):
        certificate = ([X, TAKE_X], ("send", X))
        judge_refining(self.FIRST, self.SECOND, "a", certificate)
        self.assertEqual(certificate, ([X, TAKE_X], ("send", X)))


def without_something(chance, machine):
    """The machine without some of its actions and ends; some states of it may no longer be reached."""
    _, rows, ends = machine
    rows = tuple(tuple(pair for pair in row if chance.randrange(4)) for row in rows)
    return ("table", rows, tuple(end and chance.randrange(4) > 0 for end in ends))


class TestRefinedPlays(unittest.TestCase):
    def ready_tables(self):
        return [table for table in accepted_tables(105, 80) if unready(table) is None]

    def refined(self, chance, table):
        """The machines of the table, some of them replaced by others that refine them."""
        machines = machines_of(table)
        changed = 0
        for party, machine in list(machines.items()):
            for _ in range(6):
                other = without_something(chance, machine)
                if other != machine and refining_fault(other, machine, party) is None:
                    machines[party] = other
                    changed += 1
                    break
        return machines, changed

    def test_refined_machines_do_what_the_protocol_says(self):
        changed = 0
        for table in self.ready_tables():
            self.assertEqual(check(table), ("fine",))
            for chance in chances(106, 5):
                machines, many = self.refined(chance, table)
                changed += many
                play = Play(machines)
                for _ in range(10):
                    play_on(play, chance, 8)
                    state = state_behind(table, play.taken())
                    self.assertIsNotNone(state)
                    if play.at_rest():
                        self.assertIs(table[2][state], True)
                play.quieten()
                self.check_quiet(table, play)
        self.assertGreater(changed, 50)

    def check_quiet(self, table, play):
        """Point 42: as long as the run is not complete, some party that may not rest finds its letter taken."""
        run = play.taken()
        if not table[2][state_behind(table, run)]:
            posts = [(name, *act[1:]) for name in play.names() if not play.rests(name)
                     for act in play.can(name) if act[0] == "post"]
            self.assertTrue(any(copy.deepcopy(play).offer(*post) for post in posts))

    def test_one_that_sends_less(self):
        table = table_from("loop {choice {a -> b: x; b -> a: x | a -> b: y}}; a -> b: z")
        machines = machines_of(table)
        machines["a"] = table_from("a -> b: y; a -> b: z")
        self.assertIsNone(refining_fault(machines["a"], machines_of(table)["a"], "a"))
        play = Play(machines)
        self.assertEqual(play.settle([1, 1, 1]), 2)
        self.assertEqual(play.taken(), acts("a b y", "a b z"))
        self.assertIs(play.at_rest(), True)

    def test_one_that_takes_more_and_one_that_never_ends(self):
        table = table_from("loop {a -> b: x}")
        machines = {"a": ("table", (((X, 0),),), (False,)), "b": table_from("loop {choice {a -> b: x | a -> b: y}}")}
        for party, machine in machines_of(table).items():
            self.assertIsNone(refining_fault(machines[party], machine, party))
        play = Play(machines)
        self.assertEqual(play.settle([]), 400)
        self.assertEqual(play.taken(), [X] * 400)


if __name__ == "__main__":
    unittest.main()
