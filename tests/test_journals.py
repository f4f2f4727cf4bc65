import random
import unittest

from pactloom.journals import read_records, record

KINDS = "pkgtranyxwz"


def sum_of(text):
    """The sum of point 34, told in another way: each character counts 31 times as much as the one behind it."""
    total = 7 * 31 ** len(text) + sum(ord(sign) * 31 ** at for at, sign in enumerate(reversed(text)))
    return total % 9973


def summed(head):
    """The text of a record that begins like this, with the right sum."""
    return f"{head} {sum_of(head + ' ')}\n"


class TestRecord(unittest.TestCase):
    def test_example_of_the_interface(self):
        self.assertEqual(record("p", "b", "x", 1), "p b x 1 763\n")

    def test_the_parts_and_their_sum(self):
        for parts in [("p", "b", "x", 1), ("k", "b9", "abcdefghijkl", 2), ("g", "b", "x", 10), ("t", "c", "x.q", 99),
                      ("r", "c", ".", 3), ("r", "c", ".", 123456789), ("a", ".", ".", 300), ("w", "b", "x", 7)]:
            self.assertEqual(record(*parts), summed(" ".join(map(str, parts))))

    def test_many_sums(self):
        for number in range(1, 3000):
            self.assertEqual(record("t", "abc", "x1", number), summed(f"t abc x1 {number}"))

    def test_a_sum_of_zero_and_short_sums(self):
        sums = {}
        for number in range(1, 40000):
            text = record("p", "b", "x", number)
            sums.setdefault(len(text.split()[4]), text)
            if text.endswith(" 0\n"):
                sums["zero"] = text
        for text in sums.values():
            self.assertEqual(len(read_records(text)), 1)
        self.assertEqual(set(sums), {1, 2, 3, 4, "zero"})


class TestReading(unittest.TestCase):
    def test_no_records(self):
        self.assertEqual(read_records(""), [])
        self.assertEqual(read_records("\n"), [])
        self.assertEqual(read_records("p"), [])

    def test_records_one_behind_the_other(self):
        parts = [("p", "b", "x", 1), ("k", "b", "x", 1), ("t", "c", "y", 3), ("r", "c", ".", 4), ("g", "b", "x", 2)]
        self.assertEqual(read_records("".join(record(*one) for one in parts)), parts)

    def test_all_kinds(self):
        for kind in KINDS:
            self.assertEqual(read_records(summed(f"{kind} b x 1")), [(kind, "b", "x", 1)])
            self.assertEqual(read_records(summed(f"{kind} . . 12")), [(kind, ".", ".", 12)])

    def test_other_kinds(self):
        for kind in ["", "b", "P", "pp", "pk", "record", ".", "1", "-"]:
            self.assertEqual(read_records(summed(f"{kind} b x 1")), [])
            self.assertEqual(read_records(summed("p b x 1") + summed(f"{kind} b x 1")), [("p", "b", "x", 1)])

    def test_a_dot_anywhere_and_none_is_read_alike(self):
        self.assertEqual(read_records(summed("r b x 1")), [("r", "b", "x", 1)])
        self.assertEqual(read_records(summed("p b . 1")), [("p", "b", ".", 1)])
        self.assertEqual(read_records(summed("a b x 1")), [("a", "b", "x", 1)])

    def test_what_stands_for_other_and_label(self):
        self.assertEqual(read_records(summed("p b-> A!z.9 1")), [("p", "b->", "A!z.9", 1)])
        self.assertEqual(read_records(summed("p  x 1")), [])
        self.assertEqual(read_records(summed("p b  1")), [])
        self.assertEqual(read_records(summed("p   1")), [])

    def test_numbers_of_nine_digits_and_more(self):
        for number in [1, 9, 10, 99, 100000000, 999999999]:
            self.assertEqual(read_records(summed(f"p b x {number}")), [("p", "b", "x", number)])
        for number in ["1000000000", "9999999999", "0", "00", "01", "000000001", "0000000010", "", "-1", "+1", "1.", "1_0",
                       "x", "1x", "x1", "\u0661", "\u00b2"]:
            self.assertEqual(read_records(summed(f"p b x {number}")), [])

    def test_the_number_is_an_integer(self):
        self.assertIs(type(read_records(summed("p b x 10"))[0][3]), int)

    def test_another_sum(self):
        for text in ["p b x 1 762\n", "p b x 1 764\n", "p b x 1 0763\n", "p b x 1 10736\n", "p b x 1 \n", "p b x 1 -763\n",
                     "p b x 1 763 \n", "p b x 1  763\n", "p b x 1 76\n", "p b x 1 7\n", "p b x 1 7633\n", "p b x 1\n",
                     "p b x 2 763\n", "p b y 1 763\n", "k b x 1 763\n", "p c x 1 763\n"]:
            self.assertEqual(read_records(text), [], text)
            self.assertEqual(read_records("p b x 1 763\n" + text), [("p", "b", "x", 1)])

    def test_other_spaces(self):
        for head in [" p b x 1", "p  b x 1", "p b  x 1", "p b x  1", "p b x 1 ", "p b x y 1", "p b 1", "p b x 1 1"]:
            self.assertEqual(read_records(summed(head)), [], head)

    def test_other_ends_of_the_line(self):
        text = summed("p b x 1")
        self.assertEqual(read_records(text[:-1] + "\r\n"), [])
        self.assertEqual(read_records(text[:-1] + " " + text), [])
        self.assertEqual(read_records(text[:-1] + text), [])
        self.assertEqual(read_records("\n" + text), [])
        self.assertEqual(read_records(text + "\n" + text), [("p", "b", "x", 1)])

    def test_a_text_cut_at_each_place(self):
        parts = [("p", "b", "x", 1), ("k", "b", "x", 1), ("t", "cc", "label", 12), ("r", "c", ".", 3)]
        texts = [record(*one) for one in parts]
        text = "".join(texts)
        for length in range(len(text) + 1):
            whole = [at for at in range(len(texts) + 1) if len("".join(texts[:at])) <= length]
            self.assertEqual(read_records(text[:length]), parts[:whole[-1]])

    def test_reading_goes_up_to_the_first_place_at_which_none_begins(self):
        good = summed("p b x 1")
        for bad in ["x", " ", "\n", "p b x 1 7\n", "p b x 1 763", "# no record\n", summed("q b x 1")]:
            self.assertEqual(read_records(good + good + bad + good), [("p", "b", "x", 1)] * 2)
            self.assertEqual(read_records(bad + good), [])

    def test_one_character_changed_removed_or_put_in(self):
        texts = [summed("p b x 1"), summed("t c y 12"), summed("r c . 3")]
        parts = [("p", "b", "x", 1), ("t", "c", "y", 12), ("r", "c", ".", 3)]
        text = "".join(texts)
        for place in range(len(texts[0]), len(texts[0] + texts[1])):
            for sign in "a1 \n":
                for changed in [text[:place] + sign + text[place + 1:], text[:place] + text[place + 1:],
                                text[:place] + sign + text[place:]]:
                    self.assertEqual(read_records(changed)[:1], parts[:1])
                    self.assertEqual("".join(record(*one) for one in read_records(changed)),
                                     changed[:sum(len(record(*one)) for one in read_records(changed))])
                    if changed != text:
                        self.assertNotEqual(read_records(changed), parts)

    def test_random_texts(self):
        chance = random.Random(51)
        for _ in range(300):
            parts = [(chance.choice(KINDS), chance.choice(["a", "b1", "."]), chance.choice(["x", "y.a", "."]),
                      chance.choice([1, 2, 77, 999999999])) for _ in range(chance.randrange(6))]
            tail = chance.choice(["", "p", "p b", "p b x 1 7", "?", "\n", "1 2 3 4 5 6\n"])
            self.assertEqual(read_records("".join(record(*one) for one in parts) + tail), parts)


if __name__ == "__main__":
    unittest.main()
