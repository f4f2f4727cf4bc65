import copy
import unittest

from pactloom.printing import print_body, print_book, print_pact
from pactloom.reading import read_book
from samples import letters, random_book

X = letters("a b x")


class TestPrinting(unittest.TestCase):
    def test_example_of_the_interface(self):
        body = (("loop", letters("a b x")), ("choice", ((), letters("b a y"))))
        self.assertEqual(print_body(body), "loop {a -> b: x}; choice { | b -> a: y}")

    def test_each_kind_of_step(self):
        self.assertEqual(print_body(X), "a -> b: x")
        self.assertEqual(print_body((("choice", (X, letters("b a y"))),)), "choice {a -> b: x | b -> a: y}")
        self.assertEqual(print_body((("both", (X, letters("b a y"))),)), "both {a -> b: x | b -> a: y}")
        self.assertEqual(print_body((("loop", X),)), "loop {a -> b: x}")
        self.assertEqual(print_body((("use", "p", ("a", "b1")),)), "use p(a, b1)")
        self.assertEqual(print_body((("use", "p", ("a",)),)), "use p(a)")

    def test_steps_of_a_body(self):
        self.assertEqual(print_body(()), "")
        self.assertEqual(print_body(letters("a b x", "b a y", "a c z")), "a -> b: x; b -> a: y; a -> c: z")
        self.assertEqual(print_body((("loop", letters("a b x", "b a y")),)), "loop {a -> b: x; b -> a: y}")

    def test_empty_bodies(self):
        for kind in ("choice", "both"):
            self.assertEqual(print_body(((kind, ((),)),)), kind + " {}")
            self.assertEqual(print_body(((kind, ((), ())),)), kind + " { | }")
            self.assertEqual(print_body(((kind, ((), X)),)), kind + " { | a -> b: x}")
            self.assertEqual(print_body(((kind, (X, ())),)), kind + " {a -> b: x | }")
            self.assertEqual(print_body(((kind, (X, (), X)),)), kind + " {a -> b: x |  | a -> b: x}")
        self.assertEqual(print_body((("loop", ()),)), "loop {}")

    def test_steps_within_one_another(self):
        body = (("choice", ((("both", ((("loop", ()),), X)),), (("use", "p", ("b", "a")),))), ("letter", "b", "a", "y"))
        self.assertEqual(print_body(body), "choice {both {loop {} | a -> b: x} | use p(b, a)}; b -> a: y")

    def test_pacts(self):
        self.assertEqual(print_pact(("pact", "p", ("a", "b"), ())), "pact p(a, b) end")
        self.assertEqual(print_pact(("pact", "p", ("a",), ())), "pact p(a) end")
        self.assertEqual(print_pact(("pact", "p", ("a", "b"), X)), "pact p(a, b) a -> b: x end")
        self.assertEqual(print_pact(("pact", "p", ("a", "b"), (("loop", ()),))), "pact p(a, b) loop {} end")

    def test_books(self):
        one = ("pact", "p", ("a", "b"), X)
        two = ("pact", "q", ("a",), ())
        self.assertEqual(print_book([one]), "pact p(a, b) a -> b: x end")
        self.assertEqual(print_book([one, two]), "pact p(a, b) a -> b: x end\npact q(a) end")
        self.assertEqual(print_book([two, one, two]), "pact q(a) end\npact p(a, b) a -> b: x end\npact q(a) end")

    def test_reading_a_printed_form_gives_the_same_trees(self):
        for seed in range(200):
            book = random_book(seed)
            self.assertEqual(read_book(print_book(book)), book)

    def test_reading_a_printed_form_with_empty_bodies(self):
        for text in ["choice {}", "choice { | }", "loop {}", "both { |  | }; loop {choice { | }}", "both {loop {} | }"]:
            printed = "pact p(a, b) " + text + " end"
            self.assertEqual(print_book(read_book(printed)), printed)

    def test_what_is_printed_stays_as_it_was(self):
        for seed in range(20):
            book = random_book(seed)
            before = copy.deepcopy(book)
            print_book(book)
            for pact in book:
                print_pact(pact)
                print_body(pact[3])
            self.assertEqual(book, before)


if __name__ == "__main__":
    unittest.main()
