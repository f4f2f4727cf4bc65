import copy
import unittest

from oracle import everyone, state_behind
from pactloom.errors import NotPossible, PactError
from pactloom.parties import Party
from pactloom.plays import Play, play_of
from pactloom.views import machine_of, view
from players import accepted_tables, chances, moves_of, play_on, shown, summed, table_from, told
from samples import act, acts

ASK = table_from("loop {a -> b: ask; b -> a: say}")
LETTER = ("letter", "a", "b", 1, "ask")


def play_with(*moves, table=ASK):
    """The play of the table in which these moves were done."""
    play = play_of(table)
    for move in moves:
        play.do(move)
    return play


POST = ("post", "a", "b", "ask")
TAKE = ("take", "b", "a")
CARRY = ("carry", 0)


class TestPlay(unittest.TestCase):
    def test_at_the_start(self):
        play = play_of(ASK)
        self.assertEqual((play.net(), play.taken(), play.names()), ([], [], ["a", "b"]))
        self.assertEqual(play.can("a"), [("post", "b", "ask")])
        self.assertEqual(play.can("b"), [])
        self.assertIs(play.at_rest(), True)
        for name in "ab":
            self.assertEqual((play.at(name), play.waits(name), play.journal(name)), (0, None, ""))
            self.assertIs(play.rests(name), True)

    def test_names_in_ascending_order(self):
        table = table_from("c -> b: x; b -> a: x")
        machines = {name: machine_of(table, name) for name in "cab"}
        self.assertEqual(Play(machines).names(), ["a", "b", "c"])
        self.assertEqual(play_of(table).names(), ["a", "b", "c"])

    def test_no_parties(self):
        play = play_of(table_from(""))
        self.assertEqual((play.names(), play.net(), play.taken()), ([], [], []))
        self.assertIs(play.at_rest(), True)
        self.assertEqual(play.settle([1, 2]), 0)

    def test_machines_of_all_parties(self):
        for table in accepted_tables():
            play = play_of(table)
            self.assertEqual(play.names(), everyone(table))
            for name in play.names():
                party = Party(name, machine_of(table, name))
                self.assertEqual((play.at(name), play.waits(name), play.can(name), play.rests(name), play.journal(name)),
                                 (0, None, party.can(), party.rests(), ""))

    def test_the_dict_of_machines_stays_as_it_is(self):
        machines = {name: machine_of(ASK, name) for name in "ba"}
        before = copy.deepcopy(machines)
        play = Play(machines)
        play.do(POST)
        play.do(("crash", "a"))
        self.assertEqual(machines, before)
        machines.clear()
        self.assertEqual(play.names(), ["a", "b"])

    def test_what_is_given_away_is_new(self):
        play = play_with(POST, CARRY, TAKE)
        for given in [play.net(), play.taken(), play.names()]:
            given.clear()
        self.assertEqual(play.net(), [("taken", "a", "b", 1)])
        self.assertEqual(play.taken(), acts("a b ask"))
        self.assertEqual(play.names(), ["a", "b"])


class TestMoves(unittest.TestCase):
    def refuses(self, play, *moves):
        for move in moves:
            before = shown(play)
            with self.assertRaises(NotPossible, msg=move) as caught:
                play.do(move)
            self.assertIsInstance(caught.exception, PactError)
            self.assertEqual(shown(play), before)

    def test_a_move_returns_nothing(self):
        play = play_of(ASK)
        for move in [POST, ("again", "a"), ("copy", 0), CARRY, ("lose", 1), TAKE, ("crash", "b"), ("withdraw", "a"),
                     ("torn", CARRY, 3)]:
            self.assertIsNone(play.do(move))

    def test_post_carry_take(self):
        play = play_with(POST)
        self.assertEqual(play.net(), [LETTER])
        self.assertEqual(play.waits("a"), ("b", "ask"))
        self.assertEqual(play.journal("a"), summed("p", "b", "ask", 1))
        self.assertEqual(play.can("b"), [])
        play.do(CARRY)
        self.assertEqual(play.net(), [])
        self.assertEqual(play.can("b"), [("take", "a")])
        self.assertEqual(play.taken(), [])
        play.do(TAKE)
        self.assertEqual(play.net(), [("taken", "a", "b", 1)])
        self.assertEqual(play.taken(), acts("a b ask"))
        self.assertEqual(play.journal("b"), summed("t", "a", "ask", 1))
        self.assertEqual((play.at("a"), play.at("b")), (0, 1))
        self.assertIs(play.at_rest(), False)
        play.do(CARRY)
        self.assertEqual((play.net(), play.waits("a"), play.at("a")), ([], None, 1))
        self.assertEqual(play.journal("a"), summed("p", "b", "ask", 1) + summed("k", "b", "ask", 1))

    def test_withdraw_and_again(self):
        play = play_with(POST, ("again", "a"), ("withdraw", "a"), ("again", "a"))
        back = ("back", "a", "b", 1)
        self.assertEqual(play.net(), [LETTER, LETTER, back, back])
        play.do(("carry", 2))
        self.assertEqual(play.net(), [LETTER, LETTER, back, ("gone", "a", "b", 1)])
        self.assertEqual(play.journal("b"), summed("r", "a", ".", 1))
        play.do(("carry", 3))
        self.assertIsNone(play.waits("a"))
        play.do(POST)
        self.assertEqual(play.net()[-1], ("letter", "a", "b", 2, "ask"))

    def test_answers_stand_at_the_end_of_the_net(self):
        play = play_with(POST, CARRY, TAKE, ("again", "a"), ("again", "a"))
        play.do(("carry", 1))
        taken = ("taken", "a", "b", 1)
        self.assertEqual(play.net(), [taken, LETTER, taken])

    def test_all_four_kinds_go_to_their_addressees(self):
        play = play_with(POST, ("withdraw", "a"), ("carry", 1), CARRY, CARRY)
        self.assertEqual(play.net(), [("gone", "a", "b", 1)])
        play.do(CARRY)
        self.assertEqual(play.journal("a"), summed("p", "b", "ask", 1) + summed("g", "b", "ask", 1))
        self.assertEqual(play.journal("b"), summed("r", "a", ".", 1))

    def test_copy_and_lose(self):
        play = play_with(POST, ("withdraw", "a"), ("copy", 0))
        back = ("back", "a", "b", 1)
        self.assertEqual(play.net(), [LETTER, back, LETTER])
        play.do(("copy", 1))
        play.do(("lose", 0))
        self.assertEqual(play.net(), [back, LETTER, back])
        play.do(("lose", 2))
        self.assertEqual(play.net(), [back, LETTER])
        self.assertEqual(play.waits("a"), ("b", "ask"))

    def test_crash(self):
        play = play_with(POST, ("copy", 0), ("withdraw", "a"), ("lose", 2), CARRY)
        before = play.journal("a")
        play.do(("crash", "a"))
        self.assertEqual((play.waits("a"), play.journal("a")), (("b", "ask"), before))
        play.do(("again", "a"))
        self.assertEqual(play.net(), [LETTER, LETTER])
        self.assertEqual(play.can("b"), [("take", "a")])
        play.do(("crash", "b"))
        self.assertEqual(play.can("b"), [])
        play.do(CARRY)
        play.do(TAKE)
        play.do(("crash", "b"))
        self.assertEqual((play.at("b"), play.taken()), (1, acts("a b ask")))

    def test_acts_that_are_not_possible(self):
        play = play_of(ASK)
        self.refuses(play, ("post", "a", "b", "say"), ("post", "b", "a", "say"), ("post", "a", "c", "ask"), TAKE,
                     ("take", "a", "b"), ("take", "b", "b"), ("take", "b", "c"), ("withdraw", "a"), ("again", "a"))
        play.do(POST)
        self.refuses(play, POST, TAKE, ("withdraw", "b"), ("again", "b"))

    def test_parties_that_are_not_there(self):
        play = play_with(POST)
        self.refuses(play, ("post", "c", "b", "ask"), ("take", "c", "a"), ("withdraw", "c"), ("again", "c"), ("crash", "c"),
                     ("crash", ""))

    def test_places_that_are_not_there(self):
        play = play_of(ASK)
        kinds = ["carry", "copy", "lose"]
        self.refuses(play, *[(kind, place) for kind in kinds for place in [0, 1, -1]])
        play.do(POST)
        play.do(("again", "a"))
        self.refuses(play, *[(kind, place) for kind in kinds for place in [2, 3, 100, -1, -2, -3]])

    def test_other_moves(self):
        self.refuses(play_with(POST), ("send", "a"), ("settle", "b"), ("torn", ("torn", CARRY, 1), 1))

    def test_the_two_hundred_and_first_message(self):
        play = play_with(POST, *[("copy", 0)] * 199)
        self.assertEqual(len(play.net()), 200)
        self.refuses(play, ("copy", 0), ("again", "a"), ("withdraw", "a"))
        play.do(CARRY)
        self.assertEqual(len(play.net()), 199)
        play.do(("again", "a"))
        self.refuses(play, TAKE, ("torn", TAKE, 0), ("torn", TAKE, 100))
        play.do(("lose", 7))
        play.do(TAKE)
        self.assertEqual(len(play.net()), 200)
        play.do(CARRY)
        self.assertEqual(play.net()[198:], [("taken", "a", "b", 1)] * 2)
        self.assertEqual(len(play.net()), 200)
        self.refuses(play, ("copy", 0))

    def test_a_post_that_would_be_the_two_hundred_and_first(self):
        table = table_from("both {a -> b: x | c -> d: x}")
        play = play_with(("post", "a", "b", "x"), *[("copy", 0)] * 199, table=table)
        post = ("post", "c", "d", "x")
        self.refuses(play, post, ("torn", post, 0), ("torn", post, 3), ("torn", post, 100))
        play.do(("lose", 0))
        play.do(post)
        self.refuses(play, ("again", "c"), ("withdraw", "c"))
        play.do(("torn", CARRY, 0))
        self.assertEqual(len(play.net()), 199)
        play.do(("withdraw", "c"))
        self.assertEqual(len(play.net()), 200)

    def test_a_crash_makes_no_message(self):
        play = play_with(POST, *[("copy", 0)] * 199)
        play.do(("crash", "a"))
        play.do(("torn", CARRY, 9))
        self.assertEqual(len(play.net()), 199)


class TestTorn(unittest.TestCase):
    def check(self, moves, move, name, record, table=ASK, taken=()):
        """Tears the move at each place of the record; tells what must have been taken if it is whole."""
        ahead = play_with(*moves, table=table)
        for count in range(len(record) + 3):
            play = play_with(*moves, table=table)
            play.do(("torn", move, count))
            whole = count >= len(record) > 0
            self.assertEqual(play.journal(name), ahead.journal(name) + (record if whole else ""), count)
            self.assertEqual(play.taken(), ahead.taken() + (list(taken) if whole else []))
            net = ahead.net()
            if move[0] == "carry":
                del net[move[1]]
            self.assertEqual(play.net(), net)
            for other in play.names():
                if other != name:
                    self.assertEqual(play.journal(other), ahead.journal(other))
                    self.assertEqual(play.can(other), ahead.can(other))
            play.do(("crash", name))
            self.assertEqual(play.journal(name), ahead.journal(name) + (record if whole else ""))
        return play

    def test_a_torn_post(self):
        play = self.check([], POST, "a", summed("p", "b", "ask", 1))
        self.assertEqual(play.waits("a"), ("b", "ask"))
        self.check([POST, ("withdraw", "a"), ("carry", 1), ("carry", 1)], POST, "a", summed("p", "b", "ask", 2))

    def test_a_post_that_was_torn_can_be_done_again(self):
        play = play_with(("torn", POST, 5))
        self.assertEqual((play.waits("a"), play.net()), (None, []))
        play.do(POST)
        self.assertEqual(play.net(), [LETTER])
        play = play_with(("torn", POST, 100), ("again", "a"))
        self.assertEqual(play.net(), [LETTER])

    def test_a_torn_take(self):
        play = self.check([POST, CARRY], TAKE, "b", summed("t", "a", "ask", 1), taken=acts("a b ask"))
        self.assertEqual(play.at("b"), 1)

    def test_a_take_that_was_torn_loses_its_offer(self):
        play = play_with(POST, CARRY, ("torn", TAKE, 4))
        self.assertEqual((play.can("b"), play.at("b"), play.taken()), ([], 0, []))
        play.do(("again", "a"))
        play.do(CARRY)
        play.do(TAKE)
        self.assertEqual(play.taken(), acts("a b ask"))

    def test_a_torn_carry_of_each_kind(self):
        self.check([POST], CARRY, "b", "")
        self.check([POST, ("withdraw", "a")], ("carry", 1), "b", summed("r", "a", ".", 1))
        self.check([POST, CARRY, TAKE], CARRY, "a", summed("k", "b", "ask", 1))
        self.check([POST, ("withdraw", "a"), ("carry", 1)], ("carry", 1), "a", summed("g", "b", "ask", 1))

    def test_a_torn_carry_of_what_is_settled(self):
        self.check([POST, CARRY, TAKE, ("again", "a")], ("carry", 1), "b", "")
        self.check([POST, CARRY, TAKE, ("copy", 0), CARRY], CARRY, "a", "")

    def test_a_torn_carry_of_a_letter_loses_the_offers(self):
        play = play_with(POST, ("copy", 0), CARRY)
        self.assertEqual(play.can("b"), [("take", "a")])
        play.do(("torn", CARRY, 100))
        self.assertEqual((play.can("b"), play.net()), ([], []))

    def test_a_torn_carry_of_a_back_keeps_the_letter_open_or_not(self):
        moves = [POST, ("copy", 0), ("withdraw", "a")]
        play = play_with(*moves, ("torn", ("carry", 2), 11), ("carry", 0), TAKE)
        self.assertEqual(play.taken(), acts("a b ask"))
        play = play_with(*moves, ("torn", ("carry", 2), 100), ("carry", 0))
        self.assertEqual((play.can("b"), play.net()), ([], [LETTER, ("gone", "a", "b", 1)]))

    def test_moves_that_cannot_be_torn(self):
        play = play_with(POST)
        refuses = TestMoves.refuses
        refuses(self, play, ("torn", ("torn", CARRY, 1), 1), ("torn", ("withdraw", "a"), 1), ("torn", ("again", "a"), 1),
                ("torn", ("copy", 0), 1), ("torn", ("lose", 0), 1), ("torn", ("crash", "a"), 1))

    def test_torn_moves_that_are_not_possible(self):
        for count in [0, 1, 100]:
            play = play_of(ASK)
            moves = [TAKE, CARRY, ("post", "b", "a", "say"), ("post", "c", "b", "ask"), ("take", "c", "a"), ("carry", -1)]
            TestMoves.refuses(self, play, *[("torn", move, count) for move in moves])
            play.do(POST)
            TestMoves.refuses(self, play, *[("torn", move, count) for move in [POST, TAKE, ("carry", 1), ("carry", -1)]])

    def test_counts_below_zero(self):
        play = play_with(POST)
        TestMoves.refuses(self, play, ("torn", CARRY, -1), ("torn", CARRY, -100))
        play = play_of(ASK)
        TestMoves.refuses(self, play, ("torn", POST, -1))

    def test_the_order_of_the_actions_taken(self):
        table = table_from("both {a -> b: x | c -> d: x}")
        play = play_with(("post", "a", "b", "x"), ("post", "c", "d", "x"), CARRY, CARRY, table=table)
        play.do(("torn", ("take", "d", "c"), 100))
        play.do(("take", "b", "a"))
        self.assertEqual(play.taken(), acts("c d x", "a b x"))


class TestQuietening(unittest.TestCase):
    def test_quieten_empties_the_net_and_withdraws(self):
        table = table_from("both {a -> b: x | c -> b: y}")
        play = play_with(("post", "c", "b", "y"), ("post", "a", "b", "x"), table=table)
        self.assertIsNone(play.quieten())
        self.assertEqual(play.net(), [])
        self.assertEqual([play.waits(name) for name in "abc"], [None] * 3)
        self.assertEqual(play.journal("b"), summed("r", "a", ".", 1) + summed("r", "c", ".", 1))
        self.assertEqual(play.taken(), [])

    def test_a_letter_that_was_taken_is_not_withdrawn(self):
        play = play_with(POST, CARRY, TAKE, ("lose", 0))
        play.quieten()
        self.assertEqual(play.journal("a"), summed("p", "b", "ask", 1) + summed("k", "b", "ask", 1))
        self.assertEqual((play.at("a"), play.at("b")), (1, 1))

    def test_the_net_is_emptied_first(self):
        play = play_with(POST, CARRY, TAKE)
        play.quieten()
        self.assertEqual(play.journal("b"), summed("t", "a", "ask", 1))
        self.assertIsNone(play.waits("a"))

    def test_first_in_first_out(self):
        play = play_with(POST, ("withdraw", "a"), ("again", "a"))
        play.quieten()
        self.assertEqual(play.journal("b"), summed("r", "a", ".", 1))

    def test_a_quiet_play_stays_as_it_is(self):
        play = play_with(POST, CARRY, TAKE, CARRY)
        before = shown(play)
        play.quieten()
        self.assertEqual(shown(play), before)

    def test_a_full_net(self):
        play = play_with(POST, *[("copy", 0)] * 199)
        play.quieten()
        self.assertEqual((play.net(), play.waits("a")), ([], None))


class TestOffering(unittest.TestCase):
    def test_an_offer_that_is_taken(self):
        play = play_of(ASK)
        self.assertIs(play.offer("a", "b", "ask"), True)
        self.assertEqual((play.taken(), play.net(), play.waits("a")), (acts("a b ask"), [], None))
        self.assertEqual((play.at("a"), play.at("b")), (1, 1))

    def test_an_offer_that_is_not_taken(self):
        table = table_from("a -> b: x; c -> b: x")
        play = play_of(table)
        self.assertIs(play.offer("c", "b", "x"), False)
        self.assertEqual((play.taken(), play.net(), play.waits("c")), ([], [], None))
        self.assertEqual(play.journal("b"), summed("r", "c", ".", 1))
        self.assertEqual(play.journal("c"), summed("p", "b", "x", 1) + summed("g", "b", "x", 1))
        self.assertIs(play.offer("a", "b", "x"), True)
        self.assertIs(play.offer("c", "b", "x"), True)
        self.assertEqual(play.taken(), acts("a b x", "c b x"))

    def test_an_offer_to_one_that_waits(self):
        table = table_from("both {b -> c: x | a -> b: x}")
        play = play_with(("post", "b", "c", "x"), ("lose", 0), table=table)
        self.assertIs(play.offer("a", "b", "x"), False)
        self.assertEqual(play.waits("b"), ("c", "x"))

    def test_an_offer_that_is_not_possible(self):
        play = play_of(ASK)
        for offer in [("b", "a", "say"), ("a", "b", "say"), ("c", "a", "x")]:
            before = shown(play)
            with self.assertRaises(NotPossible):
                play.offer(*offer)
            self.assertEqual(shown(play), before)
        play.do(POST)
        with self.assertRaises(NotPossible):
            play.offer("a", "b", "ask")

    def test_what_is_on_its_way_is_carried_too(self):
        table = table_from("both {a -> b: x | c -> d: x}")
        play = play_with(("post", "a", "b", "x"), table=table)
        self.assertIs(play.offer("c", "d", "x"), True)
        self.assertEqual((play.net(), play.can("b"), play.waits("a")), ([], [("take", "a")], ("b", "x")))


def settled(play, numbers):
    """Point 37 told again, by its words."""
    def empty():
        while play.net():
            play.do(("carry", 0))

    def attempt(name, taker, label):
        play.do(("post", name, taker, label))
        empty()
        can_take = ("take", name) in play.can(taker)
        play.do(("take", taker, name) if can_take else ("withdraw", name))
        empty()
        return can_take

    def round_with(m):
        names = [name for name in play.names() if not play.rests(name)]
        for k in range(len(names)):
            name = names[(m + k) % len(names)]
            posts = [one for one in play.can(name) if one[0] == "post"]
            for j in range(len(posts)):
                if attempt(name, *posts[(m + j) % len(posts)][1:]):
                    return True
        return False

    empty()
    while any(play.waits(name) for name in play.names()):
        play.do(("withdraw", [name for name in play.names() if play.waits(name)][0]))
        empty()
    numbers = list(numbers) + [0] * 400
    many = 0
    while many < 400 and round_with(numbers[many]):
        many += 1
    return many


class TestSettling(unittest.TestCase):
    def test_a_play_at_rest(self):
        play = play_of(ASK)
        before = shown(play)
        self.assertEqual(play.settle([]), 0)
        self.assertEqual(play.settle([5, 6, 7]), 0)
        self.assertEqual(shown(play), before)

    def test_one_that_goes_on_until_all_may_rest(self):
        play = play_of(table_from("a -> b: x; b -> c: y; c -> a: z"))
        self.assertEqual(play.settle([]), 3)
        self.assertEqual(play.taken(), acts("a b x", "b c y", "c a z"))
        self.assertIs(play.at_rest(), True)
        self.assertEqual(play.settle([]), 0)

    def test_letters_of_the_quietening_do_not_count(self):
        play = play_with(POST, CARRY, TAKE)
        self.assertEqual(play.settle([]), 1)
        self.assertEqual(play.taken(), acts("a b ask", "b a say"))

    def test_numbers_choose_the_party_and_the_post(self):
        table = table_from("both {choice {a -> b: x | a -> b: y | a -> b: z} | choice {c -> d: x | c -> d: y}}")
        # None of the four rests: a, b with nothing to post, c, and d with nothing to post.
        for number, first in [(0, "a b x"), (1, "c d y"), (2, "c d x"), (3, "a b x"), (4, "a b y"), (5, "c d y"),
                              (6, "c d x"), (7, "a b y"), (8, "a b z")]:
            play = play_of(table)
            self.assertEqual(play.settle([number]), 2)
            self.assertEqual(play.taken()[0], act(first))
        play = play_of(table)
        play.settle([1, 2])
        self.assertEqual(play.taken(), acts("c d y", "a b z"))
        play = play_of(table)
        play.settle([1])
        self.assertEqual(play.taken(), acts("c d y", "a b x"))

    def test_more_numbers_than_rounds(self):
        play = play_of(table_from("a -> b: x; b -> c: y; c -> a: z"))
        self.assertEqual(play.settle(list(range(1000))), 3)

    def test_those_behind_the_last_come_first_again(self):
        # Of the three parties that do not rest, only the first has anything to post.
        table = table_from("a -> b: x; b -> c: y")
        for number in range(7):
            play = play_of(table)
            self.assertEqual(play.settle([number]), 2)
            self.assertEqual(play.taken(), acts("a b x", "b c y"))

    def test_posts_behind_the_last_come_first_again(self):
        # a has three posts, but b takes only the first of them; b and c, who has nothing to do, rest.
        first, second, third = act("a b x"), act("a b y"), act("a b z")
        machines = {
            "a": ("table", (((first, 1), (second, 1), (third, 1)), ()), (False, True)),
            "b": ("table", (((first, 1),), ()), (True, True)),
            "c": ("table", ((),), (True,)),
        }
        for number, refused in [(0, 0), (1, 2), (2, 1), (3, 0), (4, 2), (5, 1)]:
            play = Play(machines)
            self.assertEqual(play.settle([number]), 1)
            self.assertEqual(play.taken(), [first])
            lines = [summed("r", "a", ".", at + 1) for at in range(refused)] + [summed("t", "a", "x", refused + 1)]
            self.assertEqual(play.journal("b"), "".join(lines))

    def test_a_round_without_a_letter_is_the_last(self):
        machines = {
            "a": ("table", (((act("a b x"), 1), (act("a b y"), 1)), ()), (False, True)),
            "b": ("table", ((),), (True,)),
        }
        play = Play(machines)
        self.assertEqual(play.settle([1, 0, 0]), 0)
        self.assertEqual(play.journal("b"), summed("r", "a", ".", 1) + summed("r", "a", ".", 2))
        self.assertIs(play.at_rest(), False)

    def test_four_hundred_rounds(self):
        x, y = act("a b x"), act("b a y")
        machines = {name: ("table", (((x, 1),), ((y, 0),)), (False, False)) for name in "ab"}
        play = Play(machines)
        self.assertEqual(play.settle([]), 400)
        self.assertEqual(play.taken(), [x, y] * 200)
        self.assertEqual(play.settle([3] * 1000), 400)
        self.assertEqual(len(play.taken()), 800)

    def test_all_settling(self):
        for table in accepted_tables(71, 60):
            for chance in chances(72, 3):
                play = play_of(table)
                play_on(play, chance, chance.randrange(40))
                other = copy.deepcopy(play)
                numbers = [chance.randrange(12) for _ in range(chance.randrange(12))]
                given = list(numbers)
                self.assertEqual(play.settle(numbers), settled(other, numbers))
                self.assertEqual(shown(play), shown(other))
                self.assertEqual(numbers, given)

    def test_machines_that_do_not_fit_together(self):
        tables = [table_from("choice {a -> b: x; c -> d: x | a -> b: y; c -> d: y}"), table_from("a -> b: x; c -> d: x"),
                  table_from("choice {a -> b: x; b -> a: y | c -> b: x; b -> c: y}"),
                  table_from("loop {choice {a -> b: x | c -> b: x}}; choice {a -> c: x | b -> c: y; c -> a: x}")]
        for table in tables:
            for chance in chances(73, 20):
                play = play_of(table)
                play_on(play, chance, 15)
                other = copy.deepcopy(play)
                numbers = [chance.randrange(12) for _ in range(chance.randrange(6))]
                self.assertEqual(play.settle(numbers), settled(other, numbers))
                self.assertEqual(shown(play), shown(other))


class TestRest(unittest.TestCase):
    def test_a_net_that_is_not_empty(self):
        play = play_with(POST, CARRY, ("withdraw", "a"), CARRY, CARRY)
        self.assertIs(play.at_rest(), True)
        play = play_with(POST, CARRY, ("withdraw", "a"), ("copy", 0), CARRY, ("carry", 1))
        self.assertIs(play.at_rest(), False)
        play.do(CARRY)
        play.do(("lose", 0))
        self.assertIs(play.at_rest(), True)

    def test_one_that_waits(self):
        play = play_with(POST, ("lose", 0))
        self.assertEqual(play.net(), [])
        self.assertIs(play.rests("a"), False)
        self.assertIs(play.at_rest(), False)

    def test_one_that_may_not_rest(self):
        play = play_with(POST, CARRY, TAKE, CARRY)
        self.assertEqual((play.net(), play.waits("a"), play.waits("b")), ([], None, None))
        self.assertIs(play.at_rest(), False)
        self.assertIs(play_of(table_from("a -> b: x")).at_rest(), False)

    def test_offers_do_not_matter(self):
        play = play_with(POST, ("copy", 0), CARRY, ("copy", 0), ("withdraw", "a"), ("carry", 2), ("carry", 2))
        self.assertEqual(play.net(), [LETTER, LETTER])
        play = play_with(("torn", POST, 0), POST, ("copy", 0), ("copy", 0), CARRY, ("lose", 0), ("lose", 0))
        self.assertEqual((play.net(), play.can("b")), ([], [("take", "a")]))
        self.assertIs(play.at_rest(), False)


def was_taken(play, name):
    """Does the party wait for a letter that was taken?"""
    if play.waits(name) is None:
        return False
    posts = [line.split() for line in play.journal(name).splitlines() if line.startswith("p ")]
    _, taker, label, number, _ = posts[-1]
    return f"t {name} {label} {number} " in play.journal(taker)


def home(table, state):
    """The actions of a shortest list that leads from the state to an end."""
    ways = [(state, [])]
    for at, way in ways:
        if table[2][at]:
            return way
        ways += [(target, way + [action]) for action, target in table[1][at]]


class TestAllPlays(unittest.TestCase):
    def test_what_always_holds(self):
        many = 0
        for table in accepted_tables(74, 40):
            machines = {name: machine_of(table, name) for name in everyone(table)}
            for chance in chances(75, 4):
                play = play_of(table)
                for _ in range(80):
                    play_on(play, chance, 1)
                    self.check_situation(table, machines, play)
                many += len(play.taken()) > 3
        self.assertGreater(many, 50)

    def check_situation(self, table, machines, play):
        """Point 39."""
        run = play.taken()
        self.assertIsNotNone(state_behind(table, run))
        for name, machine in machines.items():
            seen = view(run, name)
            if was_taken(play, name):
                self.assertEqual(seen[-1], (name, *play.waits(name)))
                self.assertEqual(play.at(name), state_behind(machine, seen[:-1]))
            else:
                self.assertEqual(play.at(name), state_behind(machine, seen))

    def test_every_play_can_be_brought_to_rest(self):
        for table in accepted_tables(76, 60):
            for chance in chances(77, 4):
                play = play_of(table)
                play_on(play, chance, chance.randrange(80))
                play.quieten()
                for action in home(table, state_behind(table, play.taken())):
                    self.assertIs(play.at_rest() and not table[2][state_behind(table, play.taken())], False)
                    self.assertIs(play.offer(*action), True)
                self.assertIs(play.at_rest(), True)
                self.assertIs(table[2][state_behind(table, play.taken())], True)

    def test_a_play_that_settled_is_at_rest_or_goes_on(self):
        rested = 0
        for table in accepted_tables(76, 60):
            for chance in chances(84, 3):
                play = play_of(table)
                play_on(play, chance, chance.randrange(80))
                if play.settle([chance.randrange(60) for _ in range(400)]) < 400:
                    self.assertIs(play.at_rest(), True)
                    rested += 1
                self.assertIs(play.at_rest(), table[2][state_behind(table, play.taken())])
        self.assertGreater(rested, 100)

    def test_sender_and_taker_agree(self):
        for table in accepted_tables(78, 30):
            for chance in chances(79, 4):
                play = play_of(table)
                play_on(play, chance, 80)
                play.quieten()
                for name in play.names():
                    kept = [line.split() for line in play.journal(name).splitlines()]
                    for other in play.names():
                        told_of = [line.split() for line in play.journal(other).splitlines()]
                        took = [line[2:4] for line in told_of if line[0] == "t" and line[1] == name]
                        was_taken = [line[2:4] for line in kept if line[0] == "k" and line[1] == other]
                        self.assertEqual(took, was_taken)

    def test_a_refused_number_is_never_taken(self):
        for table in accepted_tables(80, 30):
            for chance in chances(81, 4):
                play = play_of(table)
                play_on(play, chance, 100)
                for name in play.names():
                    lines = [line.split() for line in play.journal(name).splitlines()]
                    settled_ones = [(line[1], line[3]) for line in lines if line[0] in "tr"]
                    self.assertEqual(len(settled_ones), len(set(settled_ones)))

    def test_moves_do_to_a_play_what_they_do_to_its_parties(self):
        for table in accepted_tables(82, 15):
            for chance in chances(83, 3):
                play = play_of(table)
                for _ in range(60):
                    moves = [move for move in moves_of(play, chance) if move[0] in ("post", "take", "withdraw", "again")]
                    if moves:
                        self.check_act(play, chance.choice(moves))
                    play_on(play, chance, 1)

    def check_act(self, play, move):
        name = move[1]
        party, net = copy.deepcopy(play.parties[name]), play.net()
        message = getattr(party, move[0])(*move[2:])
        play.do(move)
        self.assertEqual(play.net(), net + [message])
        self.assertEqual(told(play.parties[name]), told(party))


if __name__ == "__main__":
    unittest.main()
