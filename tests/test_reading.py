import random
import unittest

from grammar import first_misfit
from pactloom.errors import SourceError
from pactloom.printing import print_book
from pactloom.reading import read_book
from pactloom.tokens import tokenize
from samples import letters, random_book

X = letters("a b x")
SIGNS = ["pact", "end", "choice", "both", "loop", "use", "a", "b", "p9"]
SIGNS += ["->", "(", ")", "{", "}", ",", ";", ":", "|"]


def body_of(text):
    """The body that the text tells in a pact of a, b and c."""
    return read_book("pact one(d, e) end pact p(a, b, c) " + text + " end")[1][3]


class RefusingTest(unittest.TestCase):
    def refused_at(self, text, at):
        with self.assertRaises(SourceError) as caught:
            read_book(text)
        self.assertEqual(caught.exception.at, at, repr(text))


class TestTrees(unittest.TestCase):
    def test_a_book_is_a_list_of_pacts(self):
        book = read_book("pact p(a) end\npact q(a, b) a -> b: x end")
        self.assertEqual(book, [("pact", "p", ("a",), ()), ("pact", "q", ("a", "b"), X)])
        self.assertIs(type(book), list)

    def test_each_kind_of_step(self):
        self.assertEqual(body_of("a -> b: x"), (("letter", "a", "b", "x"),))
        self.assertEqual(body_of("choice {a -> b: x | b -> a: y}"), (("choice", (X, letters("b a y"))),))
        self.assertEqual(body_of("both {a -> b: x | b -> a: y}"), (("both", (X, letters("b a y"))),))
        self.assertEqual(body_of("loop {a -> b: x}"), (("loop", X),))
        self.assertEqual(body_of("use one(b, c)"), (("use", "one", ("b", "c")),))
        self.assertEqual(body_of("a -> b: x; a -> c: x; b -> a: y"), letters("a b x", "a c x", "b a y"))

    def test_each_kind_of_step_within_each_other(self):
        inner = {
            "a -> b: x": X,
            "choice {a -> b: x}": (("choice", (X,)),),
            "both {a -> b: x}": (("both", (X,)),),
            "loop {a -> b: x}": (("loop", X),),
            "use one(b, c)": (("use", "one", ("b", "c")),),
            "a -> b: x; loop {a -> b: x}": X + (("loop", X),),
        }
        for text, tree in inner.items():
            self.assertEqual(body_of("choice {" + text + "|" + text + "}"), (("choice", (tree, tree)),))
            self.assertEqual(body_of("both {" + text + "|" + text + "}"), (("both", (tree, tree)),))
            self.assertEqual(body_of("loop {" + text + "}"), (("loop", tree),))

    def test_empty_bodies(self):
        for kind in ("choice", "both"):
            self.assertEqual(body_of(kind + " {}"), ((kind, ((),)),))
            self.assertEqual(body_of(kind + "{|}"), ((kind, ((), ())),))
            self.assertEqual(body_of(kind + " {||}"), ((kind, ((), (), ())),))
            self.assertEqual(body_of(kind + " {|a -> b: x}"), ((kind, ((), X)),))
            self.assertEqual(body_of(kind + " {a -> b: x|}"), ((kind, (X, ())),))
            self.assertEqual(body_of(kind + " {a -> b: x||a -> b: x}"), ((kind, (X, (), X)),))
        self.assertEqual(body_of("loop {}"), (("loop", ()),))
        self.assertEqual(body_of(""), ())

    def test_a_single_branch(self):
        self.assertEqual(body_of("choice {a -> b: x}"), (("choice", (X,)),))
        self.assertEqual(body_of("both {a -> b: x}"), (("both", (X,)),))

    def test_one_party_and_six(self):
        self.assertEqual(read_book("pact p(a) end")[0][2], ("a",))
        book = read_book("pact p(a,b,c,d,e,f) end pact q(f,e,d,c,b,a) use p(a,b,c,d,e,f) end")
        self.assertEqual(book[0][2], ("a", "b", "c", "d", "e", "f"))
        self.assertEqual(book[1][3], (("use", "p", ("a", "b", "c", "d", "e", "f")),))

    def test_one_pact_and_ten(self):
        for many in (1, 10):
            book = read_book("\n".join(f"pact p{number}(a) end" for number in range(many)))
            self.assertEqual([pact[1] for pact in book], [f"p{number}" for number in range(many)])

    def test_eight_braces_open(self):
        for kind in ("choice", "both", "loop"):
            tree = X
            for _ in range(8):
                tree = ((kind, tree if kind == "loop" else (tree,)),)
            text = (kind + "{") * 8 + "a->b:x" + "}" * 8
            self.assertEqual(body_of(text + ";" + text), tree + tree)

    def test_names_are_free_where_they_do_not_meet(self):
        book = read_book("pact a(a, b) a -> b: a end pact b(b, a) use a(b, a); a -> b: b end")
        self.assertEqual(book[1][3], (("use", "a", ("b", "a")), ("letter", "a", "b", "b")))

    def test_each_call_gives_a_new_book(self):
        text = "pact p(a, b) a -> b: x end"
        first = read_book(text)
        first.append("more")
        self.assertEqual(read_book(text), [("pact", "p", ("a", "b"), X)])


class TestFaultsOfForm(RefusingTest):
    def test_a_wrong_token_far_behind_is_told(self):
        self.refused_at("a pact p end (((( pact p(a) end A", 32)
        self.refused_at("pact pact\n\n  1", 13)
        self.refused_at("pact p(a,b,c,d,e,f,g) end -", 26)
        self.refused_at("pact p(a) " + "loop {" * 9 + " $", 65)
        self.refused_at("pact p(a) end " * 11 + "_", 154)
        self.refused_at("pact p(a, a) b -> b: x end %", 27)

    def test_two_wrong_tokens(self):
        self.refused_at("pact p(a) 2 3 end", 10)

    def test_a_text_without_tokens(self):
        for text in ["", " ", "\n\n", "  \n "]:
            self.refused_at(text, len(text))

    def test_a_text_that_ends_too_early(self):
        text = "pact p(a, b) choice {a -> b: x; both {|}|} ; loop {use q(a, b)} end"
        tokens = tokenize(text)
        for at, token in enumerate(tokens):
            for tail in ["", " ", "\n \n"]:
                beginning = text[:token[2]].rstrip() + tail
                self.assertEqual(tokenize(beginning), tokens[:at])
                self.refused_at(beginning, len(beginning))
        self.refused_at("pact p(a) end pact ", 19)
        self.refused_at("pact p(a) end pact q(a)\n", 24)
        self.refused_at("pact p(a,b,c,d,e,f,", 19)
        self.refused_at("pact p(a) " + "loop {" * 8, 58)
        self.refused_at("pact p(a) " + "loop {" * 8 + " loop ", 64)

    def test_the_first_token_that_cannot_stand(self):
        for text, at in [
            ("p(a) end", 0),
            ("pact (a) end", 5),
            ("pact end(a) end", 5),
            ("pact p a) end", 7),
            ("pact p() end", 7),
            ("pact p(a b) end", 9),
            ("pact p(a,) end", 9),
            ("pact p(a, use) end", 10),
            ("pact p(a) a -> b: x; end", 21),
            ("pact p(a) ; end", 10),
            ("pact p(a) a : b", 12),
            ("pact p(a) a -> loop: x end", 15),
            ("pact p(a) a -> b x end", 17),
            ("pact p(a) a -> b: end", 18),
            ("pact p(a) a -> b: x b -> a: x end", 20),
            ("pact p(a) choice a", 17),
            ("pact p(a) choice {a -> b: x;} end", 28),
            ("pact p(a) choice {a -> b: x;| } end", 28),
            ("pact p(a) choice { end", 19),
            ("pact p(a) loop {|} end", 16),
            ("pact p(a) loop {a -> b: x |} end", 26),
            ("pact p(a) both {} | end", 18),
            ("pact p(a) } end", 10),
            ("pact p(a) | end", 10),
            ("pact p(a) use p end", 16),
            ("pact p(a) use p() end", 16),
            ("pact p(a) pact q(a) end", 10),
        ]:
            self.refused_at(text, at)

    def test_a_token_behind_the_last_pact(self):
        for sign in SIGNS:
            if sign != "pact":
                self.refused_at("pact p(a) end \n" + sign, 15)

    def test_wrong_tokens_at_every_place(self):
        chance = random.Random(5)
        for seed in range(60):
            words = [token[1] for token in tokenize(print_book(random_book(seed)))][:60]
            for _ in range(12):
                changed = list(words)
                at = chance.randrange(len(words))
                act = chance.randrange(3)
                changed[at:at + (act > 0)] = [] if act == 1 else [chance.choice(SIGNS)]
                self.check_against_grammar(" ".join(changed))

    def test_texts_of_any_tokens(self):
        chance = random.Random(6)
        for _ in range(300):
            words = [chance.choice(SIGNS) for _ in range(chance.randrange(5))]
            self.check_against_grammar("pact p ( a , b ) " + " ".join(words))

    def check_against_grammar(self, text):
        tokens = tokenize(text)
        misfit = first_misfit(tokens)
        if misfit is not None:
            self.refused_at(text, tokens[misfit][2] if misfit < len(tokens) else len(text))
            return
        try:
            read_book(text)
        except SourceError as error:
            self.fail(f"{text} refused at {error.at}")
        except ValueError:
            pass


class TestLimits(RefusingTest):
    def test_the_seventh_party_of_a_pact(self):
        self.refused_at("pact p(a,b,c,d,e,f,g) end", 19)
        self.refused_at("pact p(a,b,c,d,e,f, g,h) end", 20)
        self.refused_at("pact p(a,b,c,d,e,f,) end", 19)
        self.refused_at("pact p(a,a,a,a,a,a,a) end", 19)

    def test_the_seventh_party_of_a_use(self):
        self.refused_at("pact p(a) use q(a,b,c,d,e,f,g) end", 28)
        self.refused_at("pact p(a) use q(a,b,c,d,e,f, pact) end", 29)

    def test_the_ninth_brace(self):
        for kind in ("choice", "both", "loop"):
            opening = kind + " {"
            self.refused_at("pact p(a) " + opening * 9 + "}" * 9 + " end", 10 + 9 * len(opening) - 1)
            self.refused_at("pact p(a) " + opening * 8 + kind + "\n;", 10 + 8 * len(opening) + len(kind) + 1)
        closed = "loop {loop {}; choice {both {}}}; "
        text = "pact p(a) " + closed + "loop {" * 8 + "}" * 8 + "; " + "choice {" * 9 + "}" * 9 + " end"
        self.refused_at(text, len("pact p(a) " + closed + "loop {" * 8 + "}" * 8 + "; " + "choice {" * 9) - 1)

    def test_braces_of_an_earlier_pact_do_not_count(self):
        deep = "loop {" * 8 + "}" * 8
        self.assertEqual(len(read_book(f"pact p(a) {deep} end pact q(a) {deep} end")), 2)

    def test_the_eleventh_pact(self):
        ten = "".join(f"pact p{number}(a) end " for number in range(10))
        self.refused_at(ten + "pact p(a) end", len(ten))
        self.refused_at(ten + "pact", len(ten))
        self.refused_at(ten + "end", len(ten))
        self.refused_at("pact p(a) end " * 10 + "pact", 140)

    def test_the_first_of_two_faults(self):
        seven = "(a,b,c,d,e,f,g)"
        nine = "loop {" * 9
        self.refused_at("pact p" + seven + nine, 19)
        self.refused_at("pact p(a) " + nine + "use q" + seven, 63)
        self.refused_at("pact p(a) use q" + seven + ";" + nine, 28)
        self.refused_at("pact p(a) ) use q" + seven, 10)
        self.refused_at("pact p(a) use q" + seven + ")", 28)
        self.refused_at("pact p(a) loop {|" + nine, 16)
        ten = "pact p(a) end " * 10
        self.refused_at(ten + "pact p" + seven, 140)
        self.refused_at("pact p" + seven + " end " + ten + "pact", 19)
        self.refused_at("pact p(a) " + nine + "}" * 9 + " end " + ten, 63)
        self.refused_at("pact p(a) ; end " + ten + "pact", 10)


if __name__ == "__main__":
    unittest.main()
