import unittest

from pactloom.errors import NameTwice, SelfLetter, SourceError, UnknownName, WrongCount
from pactloom.reading import read_book

PLACES = ["{}", "a -> b: x; {}", "{}; a -> b: x", "choice {{{}}}", "choice {{ | {}}}", "both {{{} | }}",
          "both {{a -> b: x | {}}}", "loop {{{}}}", "loop {{choice {{ | both {{a -> b: x; {}}}}}}}"]


class TestNames(unittest.TestCase):
    def refused(self, text, kind, name):
        with self.assertRaises(ValueError) as caught:
            read_book(text)
        self.assertIs(type(caught.exception), kind, text)
        self.assertEqual(caught.exception.name, name, text)

    def refused_everywhere(self, step, kind, name):
        """Refused as a step at each place where a step can stand, in a first pact and in a later one."""
        for place in PLACES:
            body = place.format(step)
            self.refused(f"pact one(d, e) end pact p(a, b) {body} end", kind, name)
            self.refused(f"pact one(d, e) end pact p(a, b) {body} end pact q(a, b) end", kind, name)

    def test_a_pact_with_the_name_of_an_earlier_one(self):
        self.refused("pact p(a) end pact p(b) end", NameTwice, "p")
        self.refused("pact p(a) end pact q(a) end pact p(b) end", NameTwice, "p")

    def test_a_party_twice_in_a_pact(self):
        self.refused("pact p(a, a) end", NameTwice, "a")
        self.refused("pact p(a, b, c, b, a) end", NameTwice, "b")
        self.refused("pact p(a) end pact q(b, c, d, e, f, b) end", NameTwice, "b")

    def test_a_party_twice_in_a_use(self):
        self.refused_everywhere("use one(a, a)", NameTwice, "a")
        self.refused_everywhere("use one(a, b, b)", NameTwice, "b")
        self.refused_everywhere("use one(b, a, b)", NameTwice, "b")

    def test_an_unknown_sender(self):
        self.refused_everywhere("c -> a: x", UnknownName, "c")
        self.refused_everywhere("d -> a: x", UnknownName, "d")

    def test_an_unknown_taker(self):
        self.refused_everywhere("a -> c: x", UnknownName, "c")
        self.refused_everywhere("b -> one: x", UnknownName, "one")

    def test_an_unknown_party_of_a_use(self):
        self.refused_everywhere("use one(c, a)", UnknownName, "c")
        self.refused_everywhere("use one(a, d)", UnknownName, "d")
        self.refused_everywhere("use one(a, one)", UnknownName, "one")

    def test_an_unknown_pact_of_a_use(self):
        self.refused_everywhere("use two(a, b)", UnknownName, "two")
        self.refused_everywhere("use a(a, b)", UnknownName, "a")

    def test_a_use_of_the_pact_itself(self):
        self.refused_everywhere("use p(a, b)", UnknownName, "p")

    def test_a_use_of_a_later_pact(self):
        self.refused("pact p(a, b) use q(a, b) end pact q(a, b) end", UnknownName, "q")
        self.refused("pact p(a, b) loop {choice {|use q(a, b)}} end pact q(a, b) end", UnknownName, "q")

    def test_a_letter_to_oneself(self):
        self.refused_everywhere("b -> b: x", SelfLetter, "b")
        self.refused_everywhere("a -> a: b", SelfLetter, "a")

    def test_a_use_with_another_number_of_parties(self):
        self.refused_everywhere("use one(a)", WrongCount, "one")
        self.refused("pact one(a) end pact p(a, b) use one(a, b) end", WrongCount, "one")
        self.refused("pact one(a, b) end pact two(a, b, c) use one(a, b, c) end", WrongCount, "one")
        self.refused("pact one(a) end pact two(a, b) end pact p(a, b) use two(a, b); use one(b, a) end",
                     WrongCount, "one")

    def test_faults_of_its_parties_come_ahead_of_a_wrong_count(self):
        self.refused_everywhere("use one(c)", UnknownName, "c")
        self.refused_everywhere("use one(a, b, c)", UnknownName, "c")
        self.refused_everywhere("use one(a, b, a)", NameTwice, "a")

    def test_a_wrong_count_comes_ahead_of_what_stands_behind(self):
        self.refused_everywhere("use one(a); a -> a: x", WrongCount, "one")
        self.refused_everywhere("use one(a); c -> a: x", WrongCount, "one")

    def test_the_first_of_two_faults(self):
        self.refused("pact p(a, a) b -> a: x end", NameTwice, "a")
        self.refused("pact p(a) b -> b: x end", UnknownName, "b")
        self.refused("pact p(a) b -> c: x end", UnknownName, "b")
        self.refused("pact p(a) a -> c: x; b -> a: x end", UnknownName, "c")
        self.refused("pact p(a, b) a -> a: x; c -> a: x end", SelfLetter, "a")
        self.refused("pact p(a, b) c -> a: x; a -> a: x end", UnknownName, "c")
        self.refused("pact p(a, b) use q(c, c) end", UnknownName, "q")
        self.refused("pact q(a, b) end pact p(a, b) use q(c, c) end", UnknownName, "c")
        self.refused("pact q(a, b) end pact p(a, b) use q(a, a, c) end", NameTwice, "a")
        self.refused("pact q(a, b) end pact p(a, b) use q(a, c, a) end", UnknownName, "c")
        self.refused("pact p(a) b -> a: x end pact p(a) end", UnknownName, "b")
        self.refused("pact p(a) end pact p(b, b) end", NameTwice, "p")
        self.refused("pact p(a, b) choice {a -> b: x | a -> a: x}; loop {c -> a: x} end", SelfLetter, "a")
        self.refused("pact p(a, b) both {choice { | c -> a: x} | a -> a: x} end", UnknownName, "c")
        self.refused("pact p(a, b) loop {a -> a: x}; c -> a: x end", SelfLetter, "a")

    def test_a_fault_of_form_comes_ahead_of_faults_of_names(self):
        for text, at in [
            ("pact p(a, a) end pact", 21),
            ("pact p(a) b -> b: x end end", 24),
            ("pact p(a) use q(a) end pact p(a) ; end", 33),
            ("pact p(a) a -> a: x", 19),
            ("pact p(a, a) end ?", 17),
        ]:
            with self.assertRaises(SourceError) as caught:
                read_book(text)
            self.assertEqual(caught.exception.at, at, text)

    def test_a_faulty_book_is_refused_each_time(self):
        for _ in range(2):
            self.refused("pact p(a, a) end", NameTwice, "a")


if __name__ == "__main__":
    unittest.main()
