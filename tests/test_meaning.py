import copy
import unittest

from oracle import is_beginning, is_whole, letters_in, lists_of, sorted_firsts
from pactloom.meaning import is_complete, is_run, may_end, steps_of
from pactloom.printing import print_body
from samples import act, acts, both, choice, letter, letters, loop, random_bodies

X = letters("a b x")
Y = letters("b a y")
Z = letters("a c z")
AX, AY, AZ = act("a b x"), act("b a y"), act("a c z")


class TestRuns(unittest.TestCase):
    def told(self, body, complete, only_runs, none):
        """Which lists are complete runs, runs and not complete, and neither."""
        for actions in complete:
            self.assertTrue(is_complete(body, actions), (body, actions))
            self.assertTrue(is_run(body, actions), (body, actions))
        for actions in only_runs:
            self.assertFalse(is_complete(body, actions), (body, actions))
            self.assertTrue(is_run(body, actions), (body, actions))
        for actions in none:
            self.assertFalse(is_complete(body, actions), (body, actions))
            self.assertFalse(is_run(body, actions), (body, actions))
        self.assertIs(may_end(body), [] in complete)

    def test_empty_body(self):
        self.told((), [[]], [], [[AX]])

    def test_letters(self):
        self.told(X, [[AX]], [[]], [[AY], [AX, AX], [act("b a x")]])
        self.told(X + Y, [[AX, AY]], [[], [AX]], [[AY], [AY, AX], [AX, AX], [AX, AY, AX]])

    def test_choices(self):
        self.told(choice(X, Y), [[AX], [AY]], [[]], [[AX, AY], [AX, AX], [AZ]])
        self.told(choice(X), [[AX]], [[]], [[AY]])
        self.told(choice(X, ()), [[], [AX]], [], [[AX, AX]])
        self.told(choice(()), [[]], [], [[AX]])
        self.told(choice(X, Y) + Z, [[AX, AZ], [AY, AZ]], [[], [AX], [AY]], [[AZ], [AX, AY]])
        self.told(choice((), X) + Z, [[AZ], [AX, AZ]], [[], [AX]], [[AX, AX], [AZ, AX]])

    def test_a_choice_whose_branches_begin_with_the_same_action(self):
        body = choice(X + Y, X + Z, X)
        self.told(body, [[AX], [AX, AY], [AX, AZ]], [[]], [[AX, AX], [AX, AY, AZ]])
        self.told(body + Y, [[AX, AY], [AX, AY, AY], [AX, AZ, AY]], [[], [AX], [AX, AZ]], [[AX, AZ, AZ]])

    def test_loops(self):
        self.told(loop(X), [[], [AX], [AX] * 2, [AX] * 50], [], [[AY], [AX, AY]])
        self.told(loop(X + Y), [[], [AX, AY], [AX, AY] * 3], [[AX], [AX, AY, AX]], [[AY], [AX, AX]])
        self.told(loop(X) + Y, [[AY], [AX, AY]], [[], [AX]], [[AY, AY], [AY, AX]])
        self.told(loop(()), [[]], [], [[AX]])

    def test_a_loop_of_a_body_that_may_be_empty(self):
        self.told(loop(choice(X, ())), [[], [AX], [AX, AX]], [], [[AY]])
        self.told(loop(loop(X)), [[], [AX], [AX, AX]], [], [[AY]])
        self.told(loop(loop(X) + choice(Y, ())), [[], [AX, AY], [AY, AX], [AY, AY, AX]], [], [[AZ]])
        self.told(loop(loop(())), [[]], [], [[AX]])

    def test_boths(self):
        self.told(both(X, Y), [[AX, AY], [AY, AX]], [[], [AX], [AY]], [[AX, AX], [AX, AY, AX]])
        self.told(both(X), [[AX]], [[]], [[AY]])
        self.told(both(X, ()), [[AX]], [[]], [[AX, AX]])
        self.told(both(()), [[]], [], [[AX]])
        self.told(both(X + Y, Z), [[AX, AY, AZ], [AX, AZ, AY], [AZ, AX, AY]], [[AX], [AZ], [AX, AZ]],
                  [[AY], [AZ, AY], [AY, AX, AZ]])
        self.told(both(X, Y) + Z, [[AX, AY, AZ], [AY, AX, AZ]], [[AX, AY]], [[AX, AZ], [AZ]])
        self.told(both(loop(X), loop(Y)), [[], [AX], [AX, AY, AY, AX]], [], [[AZ]])
        self.told(both(loop(X), Y), [[AY], [AX, AY], [AY, AX]], [[], [AX, AX]], [[AY, AY]])

    def test_a_both_whose_bodies_begin_with_the_same_action(self):
        self.told(both(X + Y, X + Z), [[AX, AY, AX, AZ], [AX, AX, AZ, AY], [AX, AZ, AX, AY]],
                  [[AX], [AX, AX], [AX, AY]], [[AY], [AX, AY, AY], [AX, AY, AZ], [AX, AX, AX]])
        self.told(both(X, X, X), [[AX] * 3], [[], [AX], [AX] * 2], [[AX] * 4])

    def test_steps_within_one_another(self):
        self.told(loop(choice(X + Y, both(Y, Z))),
                  [[], [AX, AY], [AY, AZ, AX, AY], [AZ, AY, AZ, AY]],
                  [[AY], [AZ], [AX, AY, AZ]], [[AX, AZ], [AY, AY], [AZ, AX]])
        self.told(both(loop(X), choice((), Y)), [[], [AX, AY, AX], [AY]], [], [[AY, AX, AY]])
        self.told(choice(loop(X), both(Y, Z)), [[], [AX, AX], [AZ, AY]], [[AY]], [[AX, AY]])

    def test_a_long_list(self):
        self.told(loop(X + Y), [[], [AX, AY] * 1000], [[AX, AY] * 1000 + [AX]], [[AX, AY] * 1000 + [AY]])

    def test_many_ways_to_the_same_rest(self):
        body = both(*[loop(choice(X, X + X))] * 3)
        self.told(body, [[], [AX] * 60], [], [[AX] * 60 + [AY]])
        self.told(both(*[X] * 40), [[AX] * 40], [[AX] * 39], [[AX] * 41])

    def test_all_short_lists(self):
        for body in random_bodies(1, 250):
            actions = letters_in(body)[:3] + [act("a b no")]
            for found in lists_of(actions, 4):
                self.assertIs(is_run(body, found), is_beginning(body, tuple(found)), (body, found))
                self.assertIs(is_complete(body, found), is_whole(body, tuple(found)), (body, found))
            self.assertIs(may_end(body), is_whole(body, ()), body)

    def test_arguments_stay_as_they_are(self):
        actions = acts("a b x", "b a y")
        self.assertTrue(is_run(X + Y, actions) and is_complete(X + Y, actions))
        self.assertEqual(actions, acts("a b x", "b a y"))


class TestRests(unittest.TestCase):
    def rests(self, body, *pairs):
        self.assertEqual(steps_of(body), list(pairs))

    def test_empty_body(self):
        self.rests(())
        self.rests(choice(()))
        self.rests(loop(()))
        self.rests(both((), ()))

    def test_letter(self):
        self.rests(X, (AX, ()))
        self.rests(X + Y, (AX, Y))
        self.rests(X + Y + loop(X), (AX, Y + loop(X)))

    def test_choice(self):
        self.rests(choice(Y, X), (AX, ()), (AY, ()))
        self.rests(choice(X + Z, Y) + X, (AX, Z + X), (AY, X))
        self.rests(choice((), X), (AX, ()))

    def test_loop(self):
        self.rests(loop(X), (AX, loop(X)))
        self.rests(loop(X + Y), (AX, Y + loop(X + Y)))
        self.rests(loop(X + Y) + Z, (AX, Y + loop(X + Y) + Z), (AZ, ()))

    def test_first_steps_that_may_be_passed_over(self):
        self.rests(loop(X) + choice((), Y) + Z, (AX, loop(X) + choice((), Y) + Z), (AZ, ()), (AY, Z))
        self.rests(both((), loop(X)) + Y + Z, (AX, loop(X) + Y + Z), (AY, Z))
        self.rests(choice(Y, loop(())) + X, (AX, ()), (AY, X))
        self.rests(both(choice((), X), Y) + Z, (AX, Y + Z), (AY, choice((), X) + Z))

    def test_both_leaves_out_empty_bodies(self):
        self.rests(both(X, Y), (AX, Y), (AY, X))
        self.rests(both(X), (AX, ()))
        self.rests(both(X, ()), (AX, ()))
        self.rests(both((), X + Z, ()), (AX, Z))
        self.rests(both(X, Y, Z), (AX, both(Y, Z)), (AZ, both(X, Y)), (AY, both(X, Z)))
        self.rests(both(X, (), Y, Z), (AX, both(Y, Z)), (AZ, both(X, Y)), (AY, both(X, Z)))
        self.rests(both(X + Z, Y), (AX, both(Z, Y)), (AY, X + Z))
        self.rests(both(X, Y) + Z, (AX, Y + Z), (AY, X + Z))

    def test_bodies_of_a_both_that_may_be_empty_and_are_not_stay(self):
        self.rests(both(X, loop(Y)), (AX, loop(Y)), (AY, both(X, loop(Y))))
        self.rests(both(X, choice(())), (AX, choice(())))

    def test_no_pair_twice(self):
        self.rests(choice(X, X), (AX, ()))
        self.rests(both(X, X), (AX, X))
        self.rests(both(X, X, X), (AX, both(X, X)))
        self.rests(choice(X + Y, Y, X + Y), (AX, Y), (AY, ()))
        self.rests(loop(X) + loop(X), (AX, loop(X)), (AX, loop(X) + loop(X)))
        self.rests(loop(loop(X)), (AX, loop(X) + loop(loop(X))))

    def test_order_by_the_action(self):
        self.rests(choice(letters("b a x"), letters("a c a"), letters("a b z"), letters("a b y")),
                   (act("a b y"), ()), (act("a b z"), ()), (act("a c a"), ()), (act("b a x"), ()))
        self.rests(choice(letters("aa b x"), letters("a b x"), letters("a1 b x")),
                   (act("a b x"), ()), (act("a1 b x"), ()), (act("aa b x"), ()))

    def test_order_by_the_printed_form_of_the_rest(self):
        rests = [loop(X), (), choice(X), X, Y + X, Y, both(X, Y), letters("bo b x"), letters("both1 b x"), X + X]
        pairs = [(AX, rest) for rest in sorted(rests, key=print_body)]
        self.assertNotEqual(rests, sorted(rests))
        self.rests(choice(*[X + rest for rest in rests]), *pairs)

    def test_all_rests(self):
        for body in random_bodies(2, 400, 3):
            self.rests(body, *sorted_firsts(body))

    def test_each_call_gives_a_new_list(self):
        first = steps_of(X)
        first.clear()
        self.rests(X, (AX, ()))

    def test_a_body_stays_as_it_is(self):
        body = both(X, loop(Y)) + (letter("a b z"),)
        before = copy.deepcopy(body)
        steps_of(body)
        self.assertEqual(body, before)


if __name__ == "__main__":
    unittest.main()
