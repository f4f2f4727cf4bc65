import copy
import unittest

from oracle import is_beginning, is_whole, letters_in, lists_of
from pactloom.errors import TooLarge
from pactloom.linking import link
from pactloom.meaning import is_complete, is_run
from pactloom.printing import print_body
from pactloom.reading import read_book
from pactloom.tables import difference, table_of
from pactloom.tidying import tidy
from samples import both, choice, letter, letters, loop, random_bodies, random_book

A, B, C = letters("a b x"), letters("a b y"), letters("b c x")
USE = (("use", "p", ("a", "b")),)


def tidied(text):
    """The printed form of the tidied body that a text tells."""
    book = read_book("pact p(a, b, c) end pact q(a, b, c) " + text + " end")
    return print_body(tidy(book[1][3]))


def told(body):
    """Point 58 as single replacements, done in any place of the body as long as one can be done."""
    while True:
        places = list(replacements(body))
        if not places:
            return body
        body = places[len(places) // 2]


def replacements(body):
    """All bodies that arise from the body by replacing one of its steps, or one within them, by what is simpler."""
    for at, step in enumerate(body):
        ahead, behind = body[:at], body[at + 1:]
        for steps in simpler(step):
            yield ahead + steps + behind
        if step[0] == "loop":
            for inner in replacements(step[1]):
                yield ahead + (("loop", inner),) + behind
        if step[0] in ("choice", "both"):
            for place, branch in enumerate(step[1]):
                for inner in replacements(branch):
                    yield ahead + ((step[0], step[1][:place] + (inner,) + step[1][place + 1:]),) + behind


def simpler(step):
    """The steps that may stand in place of a step, whatever stands within it."""
    kind, *rest = step
    if kind == "loop" and rest == [()]:
        yield ()
    if kind == "loop" and [inner[0] for inner in rest[0]] == ["loop"]:
        yield rest[0]
    if kind in ("choice", "both"):
        bodies = rest[0]
        for at, body in enumerate(bodies):
            if [inner[0] for inner in body] == [kind]:
                yield ((kind, bodies[:at] + body[0][1] + bodies[at + 1:]),)
            if (kind == "both" and body == ()) or (kind == "choice" and body in bodies[:at]):
                yield ((kind, bodies[:at] + bodies[at + 1:]),)
        if len(bodies) == 1:
            yield bodies[0]
        if kind == "both" and not bodies:
            yield ()


def letters_count(body):
    return print_body(body).count(" -> ")


class TestLoops(unittest.TestCase):
    def test_an_empty_body(self):
        self.assertEqual(tidy(loop(())), ())
        self.assertEqual(tidy(A + loop(()) + B), A + B)
        self.assertEqual(tidy(loop(loop(()))), ())
        self.assertEqual(tidy(loop(both((), loop(())))), ())

    def test_a_loop_in_a_loop(self):
        self.assertEqual(tidy(loop(loop(A))), loop(A))
        self.assertEqual(tidy(loop(loop(loop(A + B)))), loop(A + B))
        self.assertEqual(tidy(loop(loop(A) + loop(()))), loop(A))
        self.assertEqual(tidy(loop(choice(loop(A), loop(A)))), loop(A))

    def test_other_bodies_stay(self):
        for body in [loop(A), loop(A + B), loop(loop(A) + B), loop(A + loop(B)), loop(loop(A) + loop(A)), loop(USE),
                     loop(choice((), A)), loop(choice(loop(A), loop(B)))]:
            self.assertEqual(tidy(body), body)


class TestChoices(unittest.TestCase):
    def test_one_body(self):
        self.assertEqual(tidy(choice(A)), A)
        self.assertEqual(tidy(choice(A + B)), A + B)
        self.assertEqual(tidy(C + choice(A + B) + C), C + A + B + C)
        self.assertEqual(tidy(choice(())), ())
        self.assertEqual(tidy(A + choice(()) + B), A + B)

    def test_no_body(self):
        # Such a choice has no runs, so nothing else may stand in its place.
        self.assertEqual(tidy(choice()), choice())
        self.assertEqual(tidy(A + choice()), A + choice())
        self.assertEqual(tidy(choice(choice())), choice())
        self.assertEqual(tidy(choice(choice(), A)), A)
        self.assertEqual(tidy(choice(choice(), A, choice(), B)), choice(A, B))
        self.assertEqual(tidy(loop(choice())), loop(choice()))

    def test_equal_bodies(self):
        self.assertEqual(tidy(choice(A, A)), A)
        self.assertEqual(tidy(choice(A, B, A, C, B)), choice(A, B, C))
        self.assertEqual(tidy(choice((), ())), ())
        self.assertEqual(tidy(choice((), A, ())), choice((), A))
        self.assertEqual(tidy(choice(A + B, A + B, A)), choice(A + B, A))

    def test_bodies_that_differ_stay(self):
        for body in [choice(A, B), choice((), A), choice(A, ()), choice(B, A), choice(A, A + B), choice(A + B, B + A),
                     choice(A, loop(A)), choice(both(A, B), both(B, A)), choice(letters("a b x"), letters("b a x"))]:
            self.assertEqual(tidy(body), body)

    def test_a_choice_in_a_choice(self):
        self.assertEqual(tidy(choice(choice(A, B), C)), choice(A, B, C))
        self.assertEqual(tidy(choice(C, choice(A, B))), choice(C, A, B))
        self.assertEqual(tidy(choice(choice(A, choice(B, choice(C, ()))))), choice(A, B, C, ()))
        self.assertEqual(tidy(choice(choice(A, B), choice(B, A))), choice(A, B))
        self.assertEqual(tidy(choice(choice(A, B), choice(C, A), B)), choice(A, B, C))
        self.assertEqual(tidy(choice(A, choice(A, A))), A)

    def test_a_choice_and_something_else_stays(self):
        for body in [choice(choice(A, B) + C, A), choice(C + choice(A, B), A), choice(choice(A, B) + choice(A, B), A)]:
            self.assertEqual(tidy(body), body)

    def test_bodies_that_become_equal_when_they_are_tidied(self):
        self.assertEqual(tidy(choice(A, choice(A))), A)
        self.assertEqual(tidy(choice(A, both((), A))), A)
        self.assertEqual(tidy(choice(loop(loop(A)), B, loop(A))), choice(loop(A), B))
        self.assertEqual(tidy(choice((), loop(()), both(()), A)), choice((), A))
        self.assertEqual(tidy(choice(A + B, both(A + B, loop(())), choice(A + B, A + B))), A + B)

    def test_a_choice_that_becomes_equal_to_an_earlier_one(self):
        twice = choice(A + choice(B, C), A + choice(choice(B), C, B))
        self.assertEqual(tidy(twice), A + choice(B, C))
        self.assertEqual(tidy(choice(B) + choice(A, C) + choice(choice(A, A), C)), B + choice(A, C) + choice(A, C))

    def test_a_body_that_becomes_a_choice_when_it_is_tidied(self):
        self.assertEqual(tidy(choice(both(choice(A, B), ()), C)), choice(A, B, C))
        self.assertEqual(tidy(choice(loop(()) + choice(A, B), A)), choice(A, B))


class TestBoths(unittest.TestCase):
    def test_one_body_and_none(self):
        self.assertEqual(tidy(both(A)), A)
        self.assertEqual(tidy(C + both(A + B)), C + A + B)
        self.assertEqual(tidy(both(())), ())
        self.assertEqual(tidy(both()), ())
        self.assertEqual(tidy(A + both() + B), A + B)
        self.assertEqual(tidy(both((), (), ())), ())

    def test_empty_bodies(self):
        self.assertEqual(tidy(both((), A)), A)
        self.assertEqual(tidy(both(A, (), B, ())), both(A, B))
        self.assertEqual(tidy(both(A, loop(()))), A)
        self.assertEqual(tidy(both(loop(()), choice(()), both(()))), ())

    def test_equal_bodies_stay(self):
        self.assertEqual(tidy(both(A, A)), both(A, A))
        self.assertEqual(tidy(both(A, choice(A))), both(A, A))

    def test_a_both_in_a_both(self):
        self.assertEqual(tidy(both(both(A, B), C)), both(A, B, C))
        self.assertEqual(tidy(both(C, both(A, both(B, A)))), both(C, A, B, A))
        self.assertEqual(tidy(both(both(A, A), both((), A))), both(A, A, A))
        self.assertEqual(tidy(both(both(), A)), A)

    def test_a_both_and_something_else_stays(self):
        for body in [both(both(A, B) + C, A), both(C + both(A, B), A), both(choice(A, B), C), both(A, loop(both(A, B)))]:
            self.assertEqual(tidy(body), body)

    def test_a_both_in_a_choice_and_a_choice_in_a_both(self):
        for body in [choice(both(A, B), C), both(choice(A, B), C), loop(both(A, B)), both(loop(A), loop(A))]:
            self.assertEqual(tidy(body), body)


class TestBodies(unittest.TestCase):
    def test_letters_and_uses_stay(self):
        for body in [(), A, A + A, A + B + C, USE, A + USE + USE]:
            self.assertEqual(tidy(body), body)
        self.assertEqual(tidy(choice(USE, USE)), USE)
        self.assertEqual(tidy(loop(loop(USE))), loop(USE))
        self.assertEqual(tidy(both((), USE)), USE)

    def test_texts(self):
        for text, expected in [
            ("loop {loop {a -> b: x}; loop {}}", "loop {a -> b: x}"),
            ("choice {a -> b: x | choice {b -> a: y | a -> b: x}}", "choice {a -> b: x | b -> a: y}"),
            ("both { | use p(a, b, c) | loop {}}; loop {choice { | }}", "use p(a, b, c)"),
            ("choice { | choice {both {a -> b: x}; loop {} | }}", "choice { | a -> b: x}"),
            ("both {both {a -> b: x | } | both {}}", "a -> b: x"),
            ("", ""),
        ]:
            self.assertEqual(tidied(text), expected)

    def test_the_kinds_of_what_is_returned(self):
        body = tidy(choice(choice(A, B), C) + loop(both((), A, both(B, C))))
        self.assertEqual(body, choice(A, B, C) + loop(both(A, B, C)))
        waiting = [body]
        for part in waiting:
            self.assertIn(type(part), (tuple, str))
            waiting += part if type(part) is tuple else ()

    def test_a_body_stays_as_it_is(self):
        body = choice(choice(A, A), both((), loop(loop(B))))
        before = copy.deepcopy(body)
        tidy(body)
        self.assertEqual(body, before)

    def test_eight_deep_and_deeper(self):
        body = A
        for _ in range(40):
            body = choice(both(loop(loop(body))))
        self.assertEqual(tidy(body), loop(A))
        self.assertEqual(tidy(letters("a b x") * 300), letters("a b x") * 300)

    def test_many_bodies(self):
        bodies = [letters(f"a b x{number}") for number in range(150)]
        self.assertEqual(tidy(choice(*bodies, *bodies)), choice(*bodies))


class TestAllBodies(unittest.TestCase):
    # Few letters, so that bodies often are equal.
    BODIES = random_bodies(171, 1500, 3, [("a", "b", "x"), ("b", "a", "y")])

    def test_another_way_to_tell_it(self):
        changed = 0
        for body in self.BODIES:
            self.assertEqual(tidy(body), told(body))
            changed += tidy(body) != body
        self.assertGreater(changed, 500)

    def test_bodies_with_uses_and_boths_of_none(self):
        for number in range(60):
            for _, _, _, body in random_book(number):
                for whole in [body, body + both() + choice(body, choice(), body), loop(both(body, both()))]:
                    self.assertEqual(tidy(whole), told(whole))

    def test_tidying_twice(self):
        for body in self.BODIES:
            self.assertEqual(tidy(tidy(body)), tidy(body))

    def test_no_more_letters(self):
        fewer = 0
        for body in self.BODIES:
            self.assertLessEqual(letters_count(tidy(body)), letters_count(body))
            fewer += letters_count(tidy(body)) < letters_count(body)
        self.assertGreater(fewer, 50)

    def test_the_same_runs(self):
        compared = 0
        for body in self.BODIES:
            try:
                self.assertIsNone(difference(table_of(body), table_of(tidy(body))))
                compared += 1
            except TooLarge:
                pass
        self.assertGreater(compared, 1000)

    def test_the_same_runs_told_plainly(self):
        for body in self.BODIES[:150]:
            smaller = tidy(body)
            for run in lists_of(letters_in(body), 4):
                self.assertIs(is_complete(smaller, run), is_whole(body, tuple(run)))
                self.assertIs(is_run(smaller, run), is_beginning(body, tuple(run)))

    def test_linked_pacts(self):
        for number in range(60):
            book = random_book(number)
            name = book[-1][1]
            tidied_book = [(kind, called, parties, tidy(body)) for kind, called, parties, body in book]
            try:
                self.assertIsNone(difference(table_of(link(book, name)), table_of(link(tidied_book, name))))
            except TooLarge:
                pass

    def test_a_letter_alone(self):
        self.assertEqual(tidy((letter("a b x"),)), A)


if __name__ == "__main__":
    unittest.main()
