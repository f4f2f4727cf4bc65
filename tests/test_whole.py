"""What the document promises over the whole program: points 1 and 2."""

import copy
import random
import unittest

from oracle import certificate_holds, everyone, look_alike, state_behind
from pactloom.auditing import audit
from pactloom.checking import check, unready
from pactloom.combining import behind, beside
from pactloom.conducting import conduct
from pactloom.errors import PactError, TooLarge
from pactloom.guiding import distances, finish, homeward
from pactloom.joining import joint_states
from pactloom.journals import read_records, record
from pactloom.judging import judge
from pactloom.linking import link
from pactloom.meaning import is_complete, is_run, may_end, steps_of
from pactloom.papers import read_paper, write_paper
from pactloom.parties import Party, recover
from pactloom.plays import Play, play_of
from pactloom.printing import print_body, print_book, print_pact
from pactloom.reading import read_book
from pactloom.refining import judge_refining, refining_fault
from pactloom.slimming import recover_slots, slim
from pactloom.storing import read_table, write_table
from pactloom.tables import difference, graph_of, least, table_of, walk
from pactloom.tidying import tidy
from pactloom.tokens import tokenize
from pactloom.views import fits, hide, machine_of, machines_of, parties_of, view
from pactloom.watching import Watch
from players import chances, moves_of, play_on, shown, told
from samples import act, random_body, random_tables

PARTIES = ["a", "b", "c", "d"]
BOOK = """
pact ask(a, b) a -> b: ask; choice {b -> a: yes | b -> a: no} end
pact all(k, l, m) loop {use ask(k, l)}; both {use ask(k, m) | l -> k: bye}; l -> m: bye end
"""


def small_book(chance):
    """A book of two pacts, the second of which uses the first."""
    labels = ["x", "y"]
    used = random_body(chance, 1, [("a", "b", label) for label in labels] + [("b", "a", label) for label in labels], 2)
    actions = [(*chance.sample(PARTIES, 2), chance.choice(labels)) for _ in range(4)]
    body = list(random_body(chance, 2, actions))
    body.insert(chance.randrange(len(body) + 1), ("use", "inner", tuple(chance.sample(PARTIES, 2))))
    return [("pact", "inner", ("a", "b"), used), ("pact", "outer", tuple(PARTIES), tuple(body))]


def small_protocols(seed, many):
    """Tables of few states, each from the text of a book on."""
    tables = []
    for chance in chances(seed, many):
        book = read_book(print_book(small_book(chance)))
        try:
            table = table_of(link(book, "outer"))
        except TooLarge:
            continue
        if len(table[1]) <= 12:
            tables.append(table)
    return tables


class TestPlaysFromBooks(unittest.TestCase):
    """Point 2: what is accepted is played by its machines, what is refused by those of the conducted table."""

    def test_the_letters_taken_are_a_run_and_whole_plays_are_complete(self):
        kinds = {"fine": 0, "stray": 0, "idle": 0}
        for number, table in enumerate(small_protocols(181, 160)):
            certificate = check(table)
            kinds[certificate[0]] += 1
            if certificate != ("fine",):
                self.check_refused(table, certificate)
            for chance in chances(number, 3):
                self.check_play(table, certificate == ("fine",), chance)
        self.assertGreater(min(kinds.values()), 5)

    def check_refused(self, table, certificate):
        """It is refused for a reason that the judge accepts, on paper too."""
        self.assertIs(judge(table, certificate), True)
        self.assertTrue(certificate_holds(table, certificate))
        self.assertIs(judge(table, read_paper(write_paper(certificate))), True)

    def check_play(self, table, is_accepted, chance):
        played = table if is_accepted else conduct(table, "k")
        play = play_of(read_table(write_table(played)))
        for _ in range(chance.randrange(60)):
            play_on(play, chance, 1)
            self.check_situation(table, played, play)
        if chance.randrange(2):
            play.settle([chance.randrange(9) for _ in range(400)])
        before = play.taken()
        self.check_situation(table, played, play)
        self.assertEqual(finish(play, played), distances(played)[state_behind(played, before)])
        self.check_situation(table, played, play)
        self.assertIs(play.at_rest(), True)
        run = without_conductor(play.taken())
        self.assertIs(table[2][state_behind(table, run)], True)
        self.check_agreement(play)

    def check_situation(self, table, played, play):
        self.assertIsNotNone(state_behind(played, play.taken()))
        self.assertIsNotNone(state_behind(table, without_conductor(play.taken())))
        kind, actions = audit({name: play.journal(name) for name in play.names()})
        self.assertEqual(kind, "run")
        for name in everyone(played):
            self.assertTrue(look_alike(actions, play.taken(), name))
        if play.at_rest():
            self.assertIs(played[2][state_behind(played, play.taken())], True)

    def check_agreement(self, play):
        """Behind a quietening, each letter was taken by its taker just if its sender knows that it was."""
        records = {name: read_records(play.journal(name)) for name in play.names()}
        for name in records:
            for other in records:
                known = [one[2:] for one in records[name] if one[:2] == ("k", other)]
                taken = [one[2:] for one in records[other] if one[:2] == ("t", name)]
                self.assertEqual(known, taken)

    def test_parties_that_slim_their_journals(self):
        """A party that goes on from its summary does not know that it was slimmed."""
        for number, table in enumerate(small_protocols(182, 60)):
            played = conduct(table, "k")
            for chance in chances(number, 2):
                play = play_of(played)
                play_on(play, chance, chance.randrange(50))
                for name, machine in machines_of(played).items():
                    whole = recover(name, machine, play.journal(name))
                    summary = slim(whole)
                    cut = chance.randrange(len(summary))
                    slimmed = recover_slots(name, machine, play.journal(name), summary)
                    self.assertEqual(told(slimmed)[:-1], told(whole)[:-1])
                    torn = recover_slots(name, machine, play.journal(name), summary[:cut])
                    self.assertEqual(told(torn), told(whole))

    def test_tidied_protocols(self):
        for chance in chances(183, 60):
            body = link(small_book(chance), "outer")
            try:
                table = table_of(body)
                self.assertEqual(check(table) == ("fine",), check(table_of(tidy(body))) == ("fine",))
                self.assertEqual(least(table), least(table_of(tidy(body))))
            except TooLarge:
                pass

    def test_protocols_beside_and_behind_one_another(self):
        tables = [table for table in small_protocols(184, 80) if len(table[1]) <= 6]
        for number, (one, other) in enumerate(zip(tables, tables[1:])):
            for table in (beside(one, other), behind(one, other)):
                certificate = check(table)
                if certificate != ("fine",):
                    self.check_refused(table, certificate)
                for chance in chances(number, 1):
                    self.check_play(table, certificate == ("fine",), chance)


def without_conductor(run):
    return [action for action in run if "k" not in action[:2]]


def all_calls():
    """One call of each function of the interface, as pairs of the function and the list of its arguments."""
    book = read_book(BOOK)
    body = link(book, "all")
    table = table_of(body)
    refused = table_of(link(read_book("pact p(a, b, c, d) a -> b: x; c -> d: y end"), "p"))
    run = [act("k l ask"), act("l k yes")]
    machine = machine_of(table, "k")
    journal = record("p", "l", "ask", 1) + record("k", "l", "ask", 1)
    party = recover("k", machine, journal)
    stray, late = check(refused), unready(refused)
    fault = refining_fault(machine, machine_of(table, "l"), "k")
    return [
        (tokenize, [BOOK]), (read_book, [BOOK]), (print_book, [book]), (print_pact, [book[0]]), (print_body, [body]),
        (link, [book, "all"]), (may_end, [body]), (steps_of, [body]), (is_run, [body, run]), (is_complete, [body, run]),
        (graph_of, [body]), (table_of, [body]), (least, [table]), (difference, [table, machine]), (walk, [table, run]),
        (parties_of, [table]), (view, [run, "k"]), (machine_of, [table, "l"]), (hide, [table, "k"]), (fits, [table, run]),
        (joint_states, [table]), (check, [table]), (check, [refused]), (unready, [table]), (unready, [refused]),
        (judge, [refused, stray]), (judge, [refused, late]), (record, ["p", "l", "ask", 1]), (read_records, [journal]),
        (recover, ["k", machine, journal]), (refining_fault, [machine, machine, "k"]),
        (judge_refining, [machine, machine_of(table, "l"), "k", fault]), (conduct, [table, "q"]),
        (audit, [{"k": journal, "l": record("t", "k", "ask", 1)}]), (slim, [party]),
        (recover_slots, ["k", machine, journal, slim(party)]), (write_paper, [stray]), (read_paper, [write_paper(stray)]),
        (beside, [refused, machine]), (behind, [refused, machine]), (distances, [table]), (homeward, [table, 0]),
        (tidy, [body]), (write_table, [table]), (read_table, [write_table(table)]), (play_of, [table]),
        (Play, [machines_of(table)]), (Party, ["k", machine]), (Watch, [table]),
    ]


def plainly(worth):
    """What can be compared of a value: for objects, what they tell."""
    if isinstance(worth, Party):
        return told(worth)
    if isinstance(worth, Play):
        return shown(worth)
    if isinstance(worth, Watch):
        return worth.seen()
    return worth


class TestNothingIsChanged(unittest.TestCase):
    """Point 1: no function changes its arguments, nor what was handed out earlier."""

    def test_arguments_stay_as_they_are(self):
        for function, arguments in all_calls():
            before = copy.deepcopy([plainly(worth) for worth in arguments])
            function(*arguments)
            self.assertEqual([plainly(worth) for worth in arguments], before, function.__name__)

    def test_the_same_call_gives_the_same_again(self):
        for function, arguments in all_calls():
            self.assertEqual(plainly(function(*arguments)), plainly(function(*arguments)), function.__name__)

    def test_what_was_handed_out_stays_as_it_is(self):
        calls = all_calls()
        handed_out = [function(*arguments) for function, arguments in calls]
        before = copy.deepcopy([plainly(worth) for worth in handed_out])
        for function, arguments in reversed(calls):
            function(*arguments)
        self.assertEqual([plainly(worth) for worth in handed_out], before)

    def test_what_is_done_with_lists_that_were_handed_out_does_not_matter(self):
        for function, arguments in all_calls():
            worth = function(*arguments)
            if isinstance(worth, (list, dict)):
                expected = copy.deepcopy(worth)
                worth.clear()
                self.assertEqual(function(*arguments), expected, function.__name__)

    def test_errors_change_nothing_either(self):
        table = table_of(link(read_book(BOOK), "all"))
        large = ("table", tuple(((act("a b x"), (at + 1) % 301),) for at in range(301)), (True,) * 301)
        for function, arguments in [(link, [read_book(BOOK), "none"]), (machine_of, [large, "a"]), (hide, [large, "c"]),
                                    (conduct, [large, "k"]), (beside, [large, table]), (behind, [large, table]),
                                    (check, [large]), (unready, [large]), (joint_states, [large]), (play_of, [large])]:
            before = copy.deepcopy(arguments)
            with self.assertRaises(PactError):
                function(*arguments)
            self.assertEqual(arguments, before)

    def test_what_plays_and_parties_hand_out(self):
        chance = random.Random(185)
        for table in random_tables(186, 20):
            play = play_of(conduct(table, "k"))
            numbers = [chance.randrange(7) for _ in range(400)]
            kept = []
            for _ in range(60):
                play_on(play, chance, 1)
                worth = [play.net(), play.taken(), play.names(), *[play.can(name) for name in play.names()]]
                kept.append((worth, copy.deepcopy(worth)))
            moves = moves_of(play, chance)
            before = copy.deepcopy((moves, numbers))
            for move in moves:
                try:
                    play.do(move)
                except PactError:
                    pass
            play.settle(numbers)
            self.assertEqual((moves, numbers), before)
            for worth, copied in kept:
                self.assertEqual(worth, copied)

    def test_a_table_handed_to_a_play_or_a_watch(self):
        table = table_of(link(read_book(BOOK), "all"))
        before = copy.deepcopy(table)
        machines = machines_of(table)
        machines_before = copy.deepcopy(machines)
        play, watch = Play(machines), Watch(table)
        for action in [act("k l ask"), act("l k no"), act("m k x")]:
            watch.see(action)
        play.offer("k", "l", "ask")
        finish(play, table)
        self.assertEqual((table, machines), (before, machines_before))
        machines.clear()
        self.assertEqual(play.names(), ["k", "l", "m"])
        self.assertIs(play.at_rest(), True)

    def test_messages_and_offers_that_were_handed_out(self):
        party = Party("b", ("table", (((("a", "b", "x"), 0),),), (True,)))
        answers = party.hear(("letter", "a", "b", 1, "x"))
        offers, can = party.offers(), party.can()
        party.take("a")
        settled = party.hear(("back", "a", "b", 1))
        party.hear(("letter", "a", "b", 2, "x"))
        self.assertEqual((answers, offers, can), ([], {"a": "x"}, [("take", "a")]))
        self.assertEqual(settled, [("taken", "a", "b", 1)])


if __name__ == "__main__":
    unittest.main()
