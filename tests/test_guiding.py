import copy
import unittest

from oracle import state_behind
from pactloom.conducting import conduct
from pactloom.errors import NotPossible, TooLarge
from pactloom.guiding import distances, finish, homeward
from pactloom.plays import Play, play_of
from pactloom.tables import table_of
from pactloom.views import machine_of, machines_of
from players import accepted_tables, chances, play_on, shown, table_from
from samples import act, acts, choice, letters, loop, random_tables
from test_checking import small_tables
from test_views import chain, ring

EMPTY = ("table", ((),), (True,))


def far_from(table, state):
    """Point 56: the number of actions of a shortest list that leads from the state to an end."""
    here, many = {state}, 0
    while not any(table[2][at] for at in here):
        here, many = {to for at in here for _, to in table[1][at]}, many + 1
    return many


class TestDistances(unittest.TestCase):
    def test_ends(self):
        self.assertEqual(distances(EMPTY), [0])
        self.assertEqual(distances(ring(5)), [0] * 5)

    def test_a_chain(self):
        self.assertEqual(distances(chain(acts("a b x", "b a x", "a b y"))), [3, 2, 1, 0])
        self.assertEqual(distances(chain([act("a b x")] * 400)), list(range(400, -1, -1)))

    def test_the_shortest_list_counts(self):
        table = table_of(choice(letters("a b x", "b a x", "a b x"), letters("a b y", "a b z")))
        self.assertEqual(distances(table), [2, 2, 1, 1, 0])

    def test_ways_that_lead_back(self):
        table = table_of(loop(letters("a b x", "b a y")) + letters("a b z"))
        self.assertEqual(distances(table), [1, 2, 0])
        x, y = act("a b x"), act("b a x")
        table = ("table", (((x, 1),), ((x, 0), (y, 2)), ((x, 2), (y, 3)), ()), (False, False, False, True))
        self.assertEqual(distances(table), [3, 2, 1, 0])

    def test_an_end_on_the_way(self):
        self.assertEqual(distances(table_of(letters("a b x") + choice((), letters("b a x", "b a y")))), [1, 0, 1, 0])

    def test_all_distances(self):
        for table in random_tables(141, 300):
            before = copy.deepcopy(table)
            self.assertEqual(distances(table), [far_from(table, state) for state in range(len(table[1]))])
            self.assertEqual(table, before)


class TestHomeward(unittest.TestCase):
    def test_at_an_end(self):
        self.assertIsNone(homeward(EMPTY, 0))
        table = table_of(letters("a b x") + choice((), letters("b a x", "b a y")))
        self.assertIsNone(homeward(table, 1))
        self.assertIsNone(homeward(table, 3))
        self.assertIsNone(homeward(ring(3), 2))

    def test_the_nearer_way(self):
        table = table_of(choice(letters("a b x", "b a x", "b a y"), letters("a b y", "b a z")))
        self.assertEqual(homeward(table, 0), act("a b y"))

    def test_two_actions_that_lead_equally_near(self):
        table = table_of(choice(letters("b a y", "b a x"), letters("b a z", "b a y"), letters("a b y", "a b z")))
        self.assertEqual(homeward(table, 0), act("a b y"))
        table = table_of(choice(letters("b a y"), letters("b a x"), letters("b a x1"), letters("c a x")))
        self.assertEqual(homeward(table, 0), act("b a x"))
        table = ("table", (((act("a b x"), 1), (act("a b y"), 1)), ()), (False, True))
        self.assertEqual(homeward(table, 0), act("a b x"))

    def test_the_least_action_that_leads_no_nearer(self):
        table = table_of(loop(letters("a b x")) + letters("b c x"))
        self.assertEqual(homeward(table, 0), act("b c x"))
        table = table_of(choice(letters("a b x", "a c x", "a d x"), letters("d a x", "d b x")))
        self.assertEqual(homeward(table, 0), act("d a x"))

    def test_all_ways_home(self):
        for table in random_tables(142, 300):
            before = copy.deepcopy(table)
            for state, row in enumerate(table[1]):
                nearer = [x for x, to in row if far_from(table, to) < far_from(table, state)]
                expected = min(nearer) if far_from(table, state) else None
                self.assertEqual(homeward(table, state), expected)
            self.assertEqual(table, before)


class TestFinishing(unittest.TestCase):
    ASK = table_from("loop {a -> b: ask; b -> a: say}")

    def test_at_rest(self):
        play = play_of(self.ASK)
        self.assertEqual(finish(play, self.ASK), 0)
        self.assertEqual(play.taken(), [])
        self.assertEqual(finish(play_of(EMPTY), EMPTY), 0)

    def test_from_the_start(self):
        table = table_from("a -> b: x; choice {b -> c: y; c -> b: y; b -> c: y | b -> c: z; c -> b: z}")
        play = play_of(table)
        self.assertEqual(finish(play, table), 3)
        self.assertEqual(play.taken(), acts("a b x", "b c z", "c b z"))
        self.assertIs(play.at_rest(), True)
        self.assertEqual(finish(play, table), 0)

    def test_in_the_middle(self):
        play = play_of(self.ASK)
        for move in [("post", "a", "b", "ask"), ("carry", 0), ("take", "b", "a")]:
            play.do(move)
        self.assertEqual(finish(play, self.ASK), 1)
        self.assertEqual(play.taken(), acts("a b ask", "b a say"))
        self.assertIs(play.at_rest(), True)

    def test_letters_on_their_way_are_withdrawn_first(self):
        play = play_of(self.ASK)
        play.do(("post", "a", "b", "ask"))
        self.assertEqual(finish(play, self.ASK), 0)
        self.assertEqual((play.taken(), play.at_rest()), ([], True))
        self.assertEqual(play.journal("a").split()[::5], ["p", "g"])

    def test_an_end_where_it_could_go_on(self):
        table = table_from("a -> b: x; choice { | b -> a: y; a -> b: z}")
        play = play_of(table)
        self.assertEqual(finish(play, table), 1)
        play.offer("b", "a", "y")
        self.assertEqual(finish(play, table), 1)
        self.assertEqual(play.taken(), acts("a b x", "b a y", "a b z"))

    def test_the_least_of_two_ways(self):
        table = table_from("choice {a -> b: y; b -> a: y | a -> b: x; b -> a: x}")
        play = play_of(table)
        self.assertEqual(finish(play, table), 2)
        self.assertEqual(play.taken(), acts("a b x", "b a x"))

    def test_a_long_way(self):
        table = chain(acts("a b x", "b a x") * 149)
        self.assertEqual(finish(play_of(table), table), 298)

    def test_a_full_net(self):
        play = play_of(self.ASK)
        play.do(("post", "a", "b", "ask"))
        while len(play.net()) < 200:
            play.do(("copy", 0))
        self.assertEqual(finish(play, self.ASK), 0)
        self.assertEqual(play.net(), [])

    def test_the_distance_behind_the_quietening(self):
        many = set()
        for table in accepted_tables(143, 60):
            for chance in chances(144, 4):
                play = play_of(table)
                play_on(play, chance, chance.randrange(80))
                before = play.taken()
                found = finish(play, table)
                self.assertEqual(play.taken()[:len(before)], before)
                self.assertEqual(len(play.taken()), len(before) + found)
                self.assertEqual(found, far_from(table, state_behind(table, before)))
                self.assertIs(play.at_rest(), True)
                self.assertIs(table[2][state_behind(table, play.taken())], True)
                many.add(found)
        self.assertGreater(len(many), 3)

    def test_conducted_plays_of_refused_protocols(self):
        for number, table in enumerate(random_tables(145, 40)):
            conducted = conduct(table, "k")
            for chance in chances(number, 2):
                play = play_of(conducted)
                play_on(play, chance, chance.randrange(60))
                far = far_from(conducted, state_behind(conducted, play.taken()))
                self.assertEqual(finish(play, conducted), far)
                self.assertIs(play.at_rest(), True)

    def test_actions_that_are_no_run(self):
        play = play_of(self.ASK)
        play.offer("a", "b", "ask")
        play.do(("post", "b", "a", "say"))
        other = table_from("b -> a: say")
        with self.assertRaises(NotPossible):
            finish(play, other)
        with self.assertRaises(NotPossible):
            finish(play, EMPTY)
        self.assertEqual(play.taken(), acts("a b ask"))

    def test_a_run_that_goes_on_behind_an_end(self):
        play = play_of(self.ASK)
        for action in acts("a b ask", "b a say"):
            play.offer(*action)
        with self.assertRaises(NotPossible):
            finish(play, table_from("a -> b: ask"))
        self.assertEqual(finish(play, table_from("a -> b: ask; b -> a: say; choice { | b -> a: x}")), 0)

    def test_a_letter_that_cannot_be_posted(self):
        play = play_of(table_from("a -> b: x"))
        for other in ["a -> b: y", "b -> a: x", "a -> c: x", "c -> d: x", "d -> a: x"]:
            before = shown(play)
            with self.assertRaises(NotPossible):
                finish(play, table_from(other))
            self.assertEqual(shown(play), before)

    def test_a_letter_that_cannot_be_taken(self):
        table = table_from("choice {a -> b: x; c -> d: x | a -> b: y; c -> d: y}")
        play = play_of(table)
        play.offer("a", "b", "x")
        self.assertEqual(finish(play, table), 1)
        machines = machines_of(table)
        play = Play({**machines, "b": EMPTY})
        with self.assertRaises(NotPossible):
            finish(play, table)
        self.assertEqual((play.taken(), play.net(), play.waits("a")), ([], [], None))
        play = Play({**machines, "d": EMPTY})
        with self.assertRaises(NotPossible):
            finish(play, table)
        self.assertEqual(play.taken(), acts("a b x"))

    def test_refused_protocols_go_home_or_raise(self):
        raised = 0
        for number, table in enumerate(small_tables(146, 100)):
            for chance in chances(number, 2):
                play = play_of(table)
                play_on(play, chance, chance.randrange(60))
                before = play.taken()
                state = state_behind(table, before)
                try:
                    found = finish(play, table)
                    self.assertEqual(found, far_from(table, state))
                    self.assertEqual(len(play.taken()), len(before) + found)
                    self.assertIs(table[2][state_behind(table, play.taken())], True)
                except NotPossible:
                    raised += 1
                    self.assertIs(state is None or far_from(table, state) > 0, True)
                    self.assertEqual(play.net(), [])
        self.assertGreater(raised, 10)

    def test_a_table_stays_as_it_is(self):
        table = table_from("a -> b: x; b -> a: x")
        before = copy.deepcopy(table)
        finish(play_of(table), table)
        self.assertEqual(table, before)

    def test_a_table_whose_machines_would_be_too_large(self):
        # Only the play needs machines, and it has others.
        table = chain([act("a b x")] * 301)
        with self.assertRaises(TooLarge):
            machine_of(table, "a")
        one = ("table", (((act("a b x"), 0),),), (True,))
        self.assertEqual(finish(Play({"a": one, "b": one}), table), 301)


if __name__ == "__main__":
    unittest.main()
