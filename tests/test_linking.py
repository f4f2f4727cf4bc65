import copy
import unittest

from pactloom.errors import TooLarge, UnknownName
from pactloom.linking import link
from pactloom.reading import read_book
from samples import letters, random_book

X = letters("a b x")
ONE = "pact one(c, d) c -> d: x; d -> c: y end "
SWAPPED = letters("b a x", "a b y")


def linked(text, name="p"):
    """The linked body of the pact p of the book that the text tells."""
    return link(read_book(text), name)


def pact(name, text):
    """The text of a pact of a and b."""
    return f"pact {name}(a, b) {text} end "


class TestLinking(unittest.TestCase):
    def test_a_pact_without_uses(self):
        text = "choice {a -> b: x | both {b -> a: y | }}; loop {a -> b: x}; a -> b: z"
        book = read_book(pact("p", text))
        self.assertEqual(link(book, "p"), book[0][3])
        self.assertEqual(linked(pact("p", "")), ())

    def test_the_pact_of_the_name(self):
        text = pact("p", "a -> b: x") + pact("q", "b -> a: y") + pact("r", "use p(b, a)")
        self.assertEqual(linked(text, "p"), X)
        self.assertEqual(linked(text, "q"), letters("b a y"))
        self.assertEqual(linked(text, "r"), letters("b a x"))

    def test_a_name_that_no_pact_has(self):
        for name in ["q", "a", "x", "pp"]:
            with self.assertRaises(UnknownName) as caught:
                linked(pact("p", "a -> b: x"), name)
            self.assertEqual(caught.exception.name, name)

    def test_a_use_becomes_the_steps_of_the_used_pact(self):
        self.assertEqual(linked(ONE + pact("p", "use one(b, a)")), SWAPPED)
        self.assertEqual(linked(ONE + pact("p", "a -> b: x; use one(b, a); b -> a: z")),
                         X + SWAPPED + letters("b a z"))

    def test_a_use_in_each_kind_of_step(self):
        self.assertEqual(linked(ONE + pact("p", "choice {use one(b, a) | | a -> b: x}")),
                         (("choice", (SWAPPED, (), X)),))
        self.assertEqual(linked(ONE + pact("p", "both {a -> b: x | use one(b, a)}")), (("both", (X, SWAPPED)),))
        self.assertEqual(linked(ONE + pact("p", "loop {a -> b: x; use one(b, a)}")), (("loop", X + SWAPPED),))
        self.assertEqual(linked(ONE + pact("p", "loop {both {choice {use one(b, a)}}}")),
                         (("loop", (("both", ((("choice", (SWAPPED,)),),)),)),))

    def test_a_used_body_with_each_kind_of_step(self):
        one = "pact one(c, d) choice {c -> d: x | }; both {d -> c: y | loop {c -> d: x}} end "
        self.assertEqual(linked(one + pact("p", "use one(b, a)")), (
            ("choice", (letters("b a x"), ())),
            ("both", (letters("a b y"), (("loop", letters("b a x")),))),
        ))

    def test_a_use_of_an_empty_pact(self):
        one = "pact one(c, d) end "
        self.assertEqual(linked(one + pact("p", "use one(a, b)")), ())
        self.assertEqual(linked(one + pact("p", "a -> b: x; use one(a, b); a -> b: x")), X + X)
        self.assertEqual(linked(one + pact("p", "loop {use one(a, b)}; choice {use one(a, b) | }")),
                         (("loop", ()), ("choice", ((), ()))))

    def test_a_use_within_a_used_pact(self):
        text = ONE + "pact two(e, f, g) use one(f, g); e -> g: z end "
        text += "pact p(a, b, c) use two(b, c, a); use one(a, b) end"
        self.assertEqual(linked(text), letters("c a x", "a c y", "b a z", "a b x", "b a y"))

    def test_the_same_pact_used_several_times_with_parties_exchanged(self):
        self.assertEqual(linked(ONE + pact("p", "use one(a, b); use one(b, a); use one(a, b)")),
                         letters("a b x", "b a y", "b a x", "a b y", "a b x", "b a y"))

    def test_parties_are_exchanged_at_once(self):
        text = "pact one(a, b, c) a -> b: x; b -> c: y; c -> a: z end pact p(a, b, c) use one(b, c, a) end"
        self.assertEqual(linked(text), letters("b c x", "c a y", "a b z"))
        twice = text + " pact q(a, b, c) use p(b, c, a) end"
        self.assertEqual(linked(twice, "q"), letters("c a x", "a b y", "b c z"))

    def test_labels_and_names_of_pacts_are_no_parties(self):
        text = "pact a(a, b) a -> b: a end pact p(b, a) use a(b, a) end"
        self.assertEqual(linked(text), letters("b a a"))

    def test_a_linked_body_has_no_uses_and_tells_the_same(self):
        for seed in range(100):
            book = random_book(seed)
            pacts = {one[1]: one for one in book}
            for name, one in pacts.items():
                same = {party: party for party in one[2]}
                self.assertEqual(link(book, name), replaced(one[3], same, pacts))

    def test_the_book_stays_as_it_is(self):
        for seed in range(20):
            book = random_book(seed)
            before = copy.deepcopy(book)
            for one in before:
                self.assertEqual(link(book, one[1]), link(before, one[1]))
            self.assertEqual(book, before)


class TestLimits(unittest.TestCase):
    def too_large(self, text):
        with self.assertRaises(TooLarge):
            linked(text)

    def test_two_hundred_letters_of_one_pact(self):
        self.assertEqual(len(linked(pact("p", "; ".join(["a -> b: x"] * 200)))), 200)
        self.too_large(pact("p", "; ".join(["a -> b: x"] * 201)))

    def test_two_hundred_letters_within_steps(self):
        for kind in ("choice", "both", "loop"):
            inner = "; ".join(["a -> b: x"] * 100)
            text = kind + " {" + inner + "}; " + inner
            self.assertEqual(len(linked(pact("p", text))), 101)
            self.too_large(pact("p", text + "; a -> b: x"))

    def test_two_hundred_letters_of_used_pacts(self):
        ten = pact("one", "; ".join(["a -> b: x"] * 10))
        twenty = "; ".join(["use one(a, b)"] * 20)
        self.assertEqual(len(linked(ten + pact("p", twenty))), 200)
        self.too_large(ten + pact("p", twenty + "; a -> b: x"))
        self.too_large(ten + pact("p", "a -> b: x; " + twenty))
        self.assertEqual(len(linked(ten + pact("two", twenty) + pact("p", "use two(b, a)"))), 200)
        self.too_large(ten + pact("two", twenty) + pact("p", "use two(b, a); a -> b: x"))

    def test_letters_of_other_pacts_do_not_count(self):
        text = pact("one", "; ".join(["a -> b: x"] * 201)) + pact("p", "a -> b: x")
        self.assertEqual(linked(text), X)

    def test_a_thousand_steps_of_each_kind(self):
        for step, one in [("choice {}", 1), ("both {|}", 1), ("loop {}", 1), ("loop {choice {|both {}}}", 3)]:
            many, more = divmod(1000, one)
            text = "; ".join([step] * many + ["loop {}"] * more)
            self.assertEqual(len(linked(pact("p", text))), many + more)
            self.too_large(pact("p", text + "; loop {}"))
            self.too_large(pact("p", text + "; a -> b: x"))

    def test_letters_count_as_steps(self):
        text = "; ".join(["loop {}"] * 800 + ["a -> b: x"] * 200)
        self.assertEqual(len(linked(pact("p", text))), 1000)
        self.too_large(pact("p", "loop {}; " + text))

    def test_uses_count_and_what_they_use_each_time(self):
        empty = pact("none", "")
        self.assertEqual(linked(empty + pact("p", "; ".join(["use none(a, b)"] * 1000))), ())
        self.too_large(empty + pact("p", "; ".join(["use none(a, b)"] * 1001)))
        nine = pact("nine", "; ".join(["loop {}"] * 9))
        uses = "; ".join(["use nine(a, b)"] * 100)
        self.assertEqual(len(linked(nine + pact("p", uses))), 900)
        self.too_large(nine + pact("p", uses + "; loop {}"))
        self.too_large(nine + pact("p", "choice {" + uses + "}"))

    def test_pacts_that_double_each_time(self):
        text = pact("p0", "")
        for number in range(1, 10):
            text += pact(f"p{number}", f"use p{number - 1}(a, b); use p{number - 1}(b, a)")
        self.assertEqual(linked(text, "p8"), ())
        with self.assertRaises(TooLarge):
            linked(text, "p9")


def replaced(body, names, pacts):
    """The body with its uses replaced, one after the other."""
    steps = []
    for step in body:
        if step[0] == "letter":
            steps.append(("letter", names[step[1]], names[step[2]], step[3]))
        elif step[0] == "loop":
            steps.append(("loop", replaced(step[1], names, pacts)))
        elif step[0] == "use":
            used = pacts[step[1]]
            inner = {own: names[given] for own, given in zip(used[2], step[2])}
            steps += replaced(used[3], inner, pacts)
        else:
            steps.append((step[0], tuple(replaced(inner, names, pacts) for inner in step[1])))
    return tuple(steps)


if __name__ == "__main__":
    unittest.main()
