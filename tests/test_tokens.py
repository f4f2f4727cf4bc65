import unittest

from pactloom.errors import SourceError
from pactloom.tokens import tokenize

MARKS = ["->", "(", ")", "{", "}", ",", ";", ":", "|"]
WORDS = ["pact", "end", "choice", "both", "loop", "use"]


class TestTokens(unittest.TestCase):
    def refused_at(self, text, at):
        with self.assertRaises(SourceError) as caught:
            tokenize(text)
        self.assertEqual(caught.exception.at, at, repr(text))

    def test_example_of_the_interface(self):
        self.assertEqual(tokenize("a -> b"), [("name", "a", 0), ("mark", "->", 2), ("name", "b", 5)])

    def test_a_token_is_a_plain_tuple(self):
        tokens = tokenize("pact a")
        self.assertIs(type(tokens), list)
        self.assertTrue(all(type(token) is tuple for token in tokens))

    def test_names_of_one_to_twelve_signs(self):
        for many in range(1, 13):
            for name in ["z" * many, ("a" + "0123456789" * 2)[:many], "m" * (many - 1) + "n"]:
                self.assertEqual(tokenize(" " + name), [("name", name, 1)])

    def test_a_run_of_thirteen(self):
        self.refused_at("abcdefghijklm", 0)
        self.refused_at("a -> abcdefghijkl1", 5)
        self.refused_at("a" * 40, 0)
        self.refused_at("choicechoicec", 0)

    def test_a_run_that_begins_with_a_digit(self):
        for digit in "0123456789":
            self.refused_at(digit, 0)
            self.refused_at("a\n " + digit + "a", 3)
        self.refused_at("1234567890123", 0)
        self.assertEqual(tokenize("a0 z9"), [("name", "a0", 0), ("name", "z9", 3)])

    def test_every_letter_and_digit(self):
        for sign in "abcdefghijklmnopqrstuvwxyz":
            self.assertEqual(tokenize(sign), [("name", sign, 0)])
            self.assertEqual(tokenize("q" + sign), [("name", "q" + sign, 0)])
        for sign in "0123456789":
            self.assertEqual(tokenize("q" + sign), [("name", "q" + sign, 0)])

    def test_words_and_names_that_begin_like_them(self):
        for word in WORDS:
            self.assertEqual(tokenize(word), [("word", word, 0)])
            for name in [word + "s", word + "1", "a" + word, word[:-1], word * 2]:
                self.assertEqual(tokenize(name), [("name", name, 0)])
            self.assertEqual(tokenize(word + ":"), [("word", word, 0), ("mark", ":", len(word))])

    def test_each_mark(self):
        for mark in MARKS:
            self.assertEqual(tokenize(mark), [("mark", mark, 0)])

    def test_tokens_beside_one_another_without_a_space(self):
        for one in ["a1", "pact"] + MARKS:
            for other in ["b2", "end"] + MARKS:
                if one in MARKS or other in MARKS:
                    kinds = ["mark" if t in MARKS else "word" if t in WORDS else "name" for t in (one, other)]
                    expected = [(kinds[0], one, 0), (kinds[1], other, len(one))]
                    self.assertEqual(tokenize(one + other), expected)
        self.assertEqual(tokenize("endend"), [("name", "endend", 0)])
        self.assertEqual(
            tokenize("a->b:x;c"),
            [("name", "a", 0), ("mark", "->", 1), ("name", "b", 3), ("mark", ":", 4), ("name", "x", 5),
             ("mark", ";", 6), ("name", "c", 7)],
        )

    def test_spaces_and_newlines_are_left_out(self):
        self.assertEqual(tokenize("\n  a \n\n->\n b  \n"), [("name", "a", 3), ("mark", "->", 7), ("name", "b", 11)])
        self.assertEqual(tokenize("us e"), [("name", "us", 0), ("name", "e", 3)])

    def test_a_text_without_tokens(self):
        for text in ["", " ", "\n", " \n \n  "]:
            self.assertEqual(tokenize(text), [])

    def test_a_dash_without_an_arrow_head(self):
        for text, at in [("-", 0), ("a -", 2), ("a - > b", 2), ("a -\n> b", 2), ("-->", 0), ("a->-", 3), ("-a", 0)]:
            self.refused_at(text, at)

    def test_an_arrow_head_alone(self):
        for text, at in [(">", 0), ("a -> >", 5), ("->>", 2)]:
            self.refused_at(text, at)

    def test_every_other_character(self):
        kept = "abcdefghijklmnopqrstuvwxyz0123456789(){},;:|- \n"
        others = [chr(code) for code in range(0x180) if chr(code) not in kept]
        others += ["\u0660", "\u0430", "\u2003", "\u2028", "\uff41", "\U0001d5ba", "\u2192"]
        for sign in others:
            self.refused_at(sign, 0)
            self.refused_at(" b" + sign, 2)
            self.refused_at("a -> " + sign + " b", 5)

    def test_the_first_wrong_token_is_told(self):
        self.refused_at("a B -", 2)
        self.refused_at("aB", 1)
        self.refused_at("a 1b %", 2)
        self.refused_at("a - 1b", 2)
        self.refused_at("aaaaaaaaaaaaaA", 0)

    def test_each_call_gives_a_new_list(self):
        first = tokenize("a -> b")
        first.clear()
        self.assertEqual(len(tokenize("a -> b")), 3)


if __name__ == "__main__":
    unittest.main()
