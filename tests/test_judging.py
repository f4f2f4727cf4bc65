import copy
import random
import unittest

from oracle import certificate_holds, everyone, situations
from pactloom.checking import check, unready
from pactloom.judging import judge
from pactloom.tables import table_of
from samples import act, acts, choice, letters, random_tables
from test_checking import small_tables

X, Y = act("a b x"), act("a b y")
ACTIONS = [("a", "b", "x"), ("b", "a", "x"), ("b", "c", "x"), ("c", "a", "y"), ("c", "d", "x"), ("a", "b", "y")]


class TestStrays(unittest.TestCase):
    # a's letter tells b what to do; c and d, who see nothing, must do the same as they.
    TABLE = table_of(choice(letters("a b x", "c d x"), letters("a b y", "c d y")))
    RUN, ACTION, FIRST, SECOND = [X], act("c d y"), [Y], [Y]

    def judged(self, run=RUN, action=ACTION, first=FIRST, second=SECOND):
        certificate = ("stray", run, action, first, second)
        judged = judge(self.TABLE, certificate)
        self.assertIs(judged, certificate_holds(self.TABLE, certificate))
        return judged

    def test_a_certificate_that_holds(self):
        self.assertIs(self.judged(), True)
        self.assertIs(self.judged(run=[Y], action=act("c d x"), first=[X], second=[X]), True)
        self.assertIs(self.judged(run=[]), True)

    def test_run_is_no_run(self):
        self.assertIs(self.judged(run=[X, X]), False)
        self.assertIs(self.judged(run=[act("a b z")]), False)

    def test_run_followed_by_the_action_is_a_run(self):
        self.assertIs(self.judged(run=[Y]), False)

    def test_the_action_follows_neither(self):
        self.assertIs(self.judged(action=act("c d z")), False)
        self.assertIs(self.judged(action=act("c d x")), False)
        self.assertIs(self.judged(action=act("a c x")), False)

    def test_first_or_second_is_no_run(self):
        self.assertIs(self.judged(first=[X, Y]), False)
        self.assertIs(self.judged(second=[X, Y]), False)

    def test_the_action_does_not_follow_first_or_second(self):
        self.assertIs(self.judged(first=[]), False)
        self.assertIs(self.judged(second=[]), False)
        self.assertIs(self.judged(first=[X]), False)
        self.assertIs(self.judged(second=[X]), False)

    def test_first_or_second_looks_different(self):
        table = table_of(choice(letters("a c x", "c d x"), letters("a d y", "c d x", "b c x")))
        # At the start c could send, as it could behind a's letter to d; d could take, as behind a's letter to c.
        action, first, second = act("c d x"), acts("a d y"), acts("a c x")
        self.assertIs(judge(table, ("stray", [], action, first, second)), True)
        self.assertIs(judge(table, ("stray", [], action, second, second)), False)
        self.assertIs(judge(table, ("stray", [], action, first, first)), False)
        self.assertIs(judge(table, ("stray", [], action, second, first)), False)


class TestIdle(unittest.TestCase):
    TABLE = table_of(choice(letters("a b x"), letters("c b x", "b d x"), letters("d b x", "b a x", "b c x")))
    OTHERS = [("a", acts("c b x", "b d x")), ("c", acts("a b x")), ("d", acts("a b x"))]

    def judged(self, run=(), others=OTHERS):
        certificate = ("idle", list(run), list(others))
        judged = judge(self.TABLE, certificate)
        self.assertIs(judged, certificate_holds(self.TABLE, certificate))
        return judged

    def test_a_certificate_that_holds(self):
        self.assertIs(self.judged(), True)

    def test_one_is_missing(self):
        for at in range(3):
            self.assertIs(self.judged(others=self.OTHERS[:at] + self.OTHERS[at + 1:]), False)
        self.assertIs(self.judged(others=[]), False)

    def test_one_is_too_many(self):
        self.assertIs(self.judged(others=self.OTHERS[:1] + [("b", acts("a b x"))] + self.OTHERS[1:]), False)
        self.assertIs(self.judged(others=self.OTHERS + [("e", acts("a b x"))]), False)

    def test_one_stands_twice(self):
        for at in range(3):
            self.assertIs(self.judged(others=self.OTHERS[:at + 1] + self.OTHERS[at:]), False)

    def test_they_do_not_ascend(self):
        for others in [self.OTHERS[::-1], self.OTHERS[1:] + self.OTHERS[:1]]:
            self.assertIs(self.judged(others=others), False)

    def test_a_run_that_is_not_complete(self):
        self.assertIs(self.judged(others=[("a", acts("c b x"))] + self.OTHERS[1:]), False)
        self.assertIs(self.judged(others=[("a", [])] + self.OTHERS[1:]), False)

    def test_a_run_that_is_none(self):
        self.assertIs(self.judged(others=[("a", acts("c b x", "b d x", "b d x"))] + self.OTHERS[1:]), False)

    def test_a_run_that_looks_different(self):
        self.assertIs(self.judged(others=[("a", acts("a b x"))] + self.OTHERS[1:]), False)
        self.assertIs(self.judged(others=self.OTHERS[:2] + [("d", acts("c b x", "b d x"))]), False)

    def test_the_run_is_complete(self):
        self.assertIs(self.judged(run=acts("a b x"), others=[]), False)
        table = table_of(choice((), letters("a b x")))
        self.assertIs(judge(table, ("idle", [], [("a", [])])), False)

    def test_the_run_is_none(self):
        self.assertIs(self.judged(run=acts("a b y"), others=[]), False)
        self.assertIs(self.judged(run=acts("a b y")), False)

    def test_another_run_is_followed_by_other_senders(self):
        self.assertIs(self.judged(run=acts("c b x"), others=[("b", acts("c b x", "b d x"))]), False)


class TestUnready(unittest.TestCase):
    TABLE = table_of(letters("a b x", "c b x", "b a x"))

    def judged(self, run=(), action=act("c b x"), other=tuple(acts("a b x"))):
        certificate = ("unready", list(run), action, list(other))
        judged = judge(self.TABLE, certificate)
        self.assertIs(judged, certificate_holds(self.TABLE, certificate))
        return judged

    def test_a_certificate_that_holds(self):
        self.assertIs(self.judged(), True)

    def test_the_run_is_none(self):
        self.assertIs(self.judged(run=acts("a b x", "a b x")), False)
        self.assertIs(self.judged(run=acts("b a x")), False)

    def test_the_action_follows_the_run(self):
        self.assertIs(self.judged(run=acts("a b x")), False)

    def test_the_action_does_not_follow_the_other(self):
        self.assertIs(self.judged(other=[]), False)
        self.assertIs(self.judged(action=act("c b y")), False)
        self.assertIs(self.judged(action=act("b a x")), False)

    def test_the_other_is_no_run(self):
        self.assertIs(self.judged(other=acts("a b x", "a b x")), False)

    def test_the_other_looks_different_to_the_sender(self):
        self.assertIs(self.judged(run=acts("a b x", "c b x")), False)
        self.assertIs(self.judged(action=act("b a x"), other=acts("a b x", "c b x")), False)

    def test_the_taker_may_see_something_else(self):
        self.assertIs(judge(self.TABLE, ("stray", [], act("c b x"), acts("a b x"), acts("a b x"))), False)


class TestJudge(unittest.TestCase):
    def test_certificates_of_the_check_hold(self):
        for table in small_tables(41, 200):
            if check(table) != ("fine",):
                self.assertIs(judge(table, check(table)), True)
            if unready(table) is not None:
                self.assertIs(judge(table, unready(table)), True)

    def test_the_word_that_all_is_fine_is_no_certificate_of_a_fault(self):
        self.assertIs(judge(table_of(letters("a b x")), ("fine",)), False)
        self.assertIs(judge(table_of(letters("a b x", "c d x")), ("fine",)), False)

    def test_tuples_that_are_no_certificates(self):
        table = table_of(letters("a b x", "c d x"))
        stray, other = check(table), unready(table)
        self.assertIs(judge(table, stray), True)
        self.assertIs(judge(table, other), True)
        for certificate in [stray[:-1], stray + ([],), ("unready",) + stray[1:], ("idle",) + stray[1:],
                            other[:-1], other + ([],), ("stray",) + other[1:], ("idle",) + other[1:],
                            ("wayward",) + stray[1:], ("fine",) + stray[1:], ("late",) + other[1:], ("stray",), ("idle",)]:
            self.assertIs(judge(table, certificate), False)
        table = table_of(choice(letters("a b x"), letters("c b x")))
        idle = check(table)
        self.assertIs(judge(table, idle), True)
        for certificate in [idle[:-1], idle + ([],), ("lazy",) + idle[1:], ("stray",) + idle[1:], ("unready",) + idle[1:]]:
            self.assertIs(judge(table, certificate), False)

    def test_a_certificate_for_another_table(self):
        certificate = check(table_of(letters("a b x", "c d x")))
        for body in [(), letters("a b x"), letters("c d x"), letters("c d x", "a b x"), letters("a b x", "b c x", "c d x")]:
            self.assertIs(judge(table_of(body), certificate), False)

    def test_certificates_changed_a_little(self):
        chance = random.Random(42)
        judged = {True: 0, False: 0}
        for table in small_tables(43, 250):
            for certificate in [check(table), unready(table)]:
                if certificate not in [None, ("fine",)]:
                    for _ in range(20):
                        certificate = self.changed(chance, table, certificate)
                        self.assertIs(judge(table, certificate), certificate_holds(table, certificate))
                        judged[judge(table, certificate)] += 1
        self.assertGreater(min(judged.values()), 100)

    def changed(self, chance, table, certificate):
        """A certificate of which something is different: a run, an action, or the others."""
        kind, run, *parts = copy.deepcopy(certificate)
        at = chance.randrange(len(parts) + 1)
        if at == 0:
            run = self.changed_run(chance, table, run)
        elif kind == "idle":
            parts[0] = self.changed_others(chance, table, parts[0])
        elif at == 1:
            parts[0] = chance.choice(ACTIONS)
        else:
            parts[at - 1] = self.changed_run(chance, table, parts[at - 1])
        return (kind, run, *parts)

    def changed_run(self, chance, table, run):
        way = chance.randrange(4)
        if way == 0:
            return run[:-1]
        if way == 1:
            return run + [chance.choice(ACTIONS)]
        return chance.choice(situations(table))

    def changed_others(self, chance, table, others):
        way = chance.randrange(5)
        if way == 0:
            return others + [(chance.choice(everyone(table) + ["z"]), [])]
        if way == 1 and others:
            del others[chance.randrange(len(others))]
        elif others:
            at = chance.randrange(len(others))
            others[at] = (others[at][0], self.changed_run(chance, table, others[at][1]))
        return others

    def test_all_certificates_of_small_tables(self):
        for table in random_tables(44, 25, ACTIONS, 3):
            runs = situations(table)[:8] + [[("a", "b", "no")]]
            for run in runs:
                for first in runs:
                    for action in ACTIONS[:4]:
                        certificate = ("unready", run, action, first)
                        self.assertIs(judge(table, certificate), certificate_holds(table, certificate))
                        for second in runs:
                            certificate = ("stray", run, action, first, second)
                            self.assertIs(judge(table, certificate), certificate_holds(table, certificate))

    def test_a_table_and_a_certificate_stay_as_they_are(self):
        table = table_of(letters("a b x", "c d x"))
        certificate = check(table)
        before = copy.deepcopy((table, certificate))
        judge(table, certificate)
        self.assertEqual((table, certificate), before)

    def test_a_table_with_machines_that_are_too_large(self):
        rows = tuple(((X, state + 1),) for state in range(400)) + (((act("c d x"), 401),), ())
        table = ("table", rows, (False,) * 401 + (True,))
        self.assertIs(judge(table, ("stray", [X], act("c d x"), [X] * 400, [X] * 400)), True)
        self.assertIs(judge(table, ("stray", [X], act("c d x"), [X] * 399, [X] * 400)), False)


if __name__ == "__main__":
    unittest.main()
