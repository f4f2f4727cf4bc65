import copy
import re
import unittest

from oracle import spread
from pactloom.conducting import conduct
from pactloom.errors import PactError, TableError
from pactloom.storing import read_table, write_table
from pactloom.tables import table_of
from players import chances
from samples import act, choice, letters, random_tables
from test_views import chain, ring

EMPTY = ("table", ((),), (True,))
NAME = "[a-z][a-z0-9]{0,11}"
ACTION = re.compile(rf"  ({NAME}) -> ({NAME}): ({NAME}(?:\.{NAME})?) goto (0|[1-9][0-9]{{0,8}})")
GOOD = """state 0
  a -> b: x goto 1
  a -> b: y goto 2
state 1 end
  b -> a: x goto 0
  b -> c: x goto 1
state 2 end
"""


def fault_of(text):
    """The line of the error that reading raises, None if it raises none."""
    try:
        read_table(text)
    except TableError as error:
        assert type(error.line) is int
        return error.line
    return None


def told(text):
    """Points 46 and 47 once more: the table of a text, or the line of its fault."""
    rows, ends, targets = [], [], []
    for number, line in enumerate(re.findall("[^\n]*\n|[^\n]+", text), 1):
        found = ACTION.fullmatch(line[:-1])
        if not line.endswith("\n"):
            return number
        if line in (f"state {len(rows)}\n", f"state {len(rows)} end\n"):
            rows.append({})
            ends.append("end" in line)
        elif not found or not rows or found[1] == found[2] or any(found.groups()[:3] <= x for x in rows[-1]):
            return number
        else:
            rows[-1][found.groups()[:3]] = int(found[4])
            targets.append((int(found[4]), number))
    for target, number in targets:
        if target >= len(rows):
            return number
    pairs = [list(row.items()) for row in rows]
    if not rows or len(spread(pairs, {0}, lambda x: False)) < len(rows):
        return 0
    if not all(any(ends[to] for to in spread(pairs, {at}, lambda x: False)) for at in range(len(rows))):
        return 0
    return ("table", tuple(tuple(row) for row in pairs), tuple(ends))


class TestWriting(unittest.TestCase):
    def test_example_of_the_interface(self):
        table = ("table", (((("a", "b", "x"), 0),),), (True,))
        self.assertEqual(write_table(table), "state 0 end\n  a -> b: x goto 0\n")

    def test_states_and_actions_in_their_order(self):
        self.assertEqual(write_table(EMPTY), "state 0 end\n")
        self.assertEqual(write_table(table_of(choice(letters("a b x", "b a x"), letters("c b y")))), (
            "state 0\n  a -> b: x goto 1\n  c -> b: y goto 2\nstate 1\n  b -> a: x goto 2\nstate 2 end\n"
        ))

    def test_a_conducted_table(self):
        self.assertEqual(write_table(conduct(chain([act("a b x")]), "k")), (
            "state 0\n  k -> a: x.b goto 1\nstate 1\n  a -> b: x goto 2\n"
            "state 2\n  b -> k: x.a goto 3\nstate 3 end\n"
        ))

    def test_numbers_of_several_digits(self):
        text = write_table(ring(120))
        self.assertIn("state 99 end\n  a -> b: x goto 100\nstate 100 end\n  a -> b: x goto 101\n", text)
        self.assertTrue(text.endswith("state 119 end\n  a -> b: x goto 0\n"))


class TestReading(unittest.TestCase):
    def test_a_table_is_read_back(self):
        for table in random_tables(111, 200) + [EMPTY, ring(300), chain([act("a b x")] * 299), conduct(ring(250), "k")]:
            before = copy.deepcopy(table)
            text = write_table(table)
            self.assertEqual(table, before)
            self.assertEqual(read_table(text), table)
            self.assertEqual(write_table(read_table(text)), text)

    def test_the_kinds_of_what_is_read(self):
        kind, rows, ends = read_table(GOOD)
        self.assertEqual(kind, "table")
        self.assertEqual(rows, (
            ((("a", "b", "x"), 1), (("a", "b", "y"), 2)), ((("b", "a", "x"), 0), (("b", "c", "x"), 1)), ()
        ))
        self.assertIs(type(rows), tuple)
        self.assertEqual([type(end) for end in ends], [bool] * 3)
        self.assertEqual(ends, (False, True, True))

    def test_states_need_not_be_numbered_as_they_are_found(self):
        text = "state 0\n  a -> b: x goto 2\nstate 1 end\nstate 2\n  a -> b: x goto 1\n"
        self.assertEqual(read_table(text)[1], (((("a", "b", "x"), 2),), (), ((("a", "b", "x"), 1),)))

    def test_alike_states_stay(self):
        self.assertEqual(read_table("state 0 end\n  a -> b: x goto 1\nstate 1 end\n  a -> b: x goto 0\n")[2], (True, True))

    def test_words_are_names_here(self):
        words = ["pact", "end", "choice", "both", "loop", "use"]
        for word in words:
            for other in ["a", *words]:
                if other != word:
                    text = f"state 0 end\n  {word} -> {other}: {word} goto 0\n"
                    self.assertEqual(read_table(text)[1], ((((word, other, word), 0),),))
        self.assertEqual(read_table("state 0 end\n  state -> goto: end.goto goto 0\n")[1],
                         (((("state", "goto", "end.goto"), 0),),))

    def test_names(self):
        for good in ["a", "z9", "a1b2c3d4e5f6", "abcdefghijkl"]:
            for line in [f"{good} -> b0: x", f"b0 -> {good}: x", f"b0 -> c: {good}", f"b0 -> c: {good}.x",
                         f"b0 -> c: x.{good}"]:
                self.assertIsNone(fault_of(f"state 0 end\n  {line} goto 0\n"), line)
        for bad in ["", "A", "9a", "1", "abcdefghijklm", "a_b", "a-b", "a b", ".", "a.", ".a", "a:", "-", "->", "\u00e9",
                    "a\u00b2", "a\u0663", "b0,", "a\t", "\r", "a\r"]:
            for line in [f"{bad} -> b0: x", f"b0 -> {bad}: x", f"b0 -> c: {bad}", f"b0 -> c: {bad}.x", f"b0 -> c: x.{bad}"]:
                self.assertEqual(fault_of(f"state 0 end\n  {line} goto 0\n"), 2, line)

    def test_dots(self):
        for label in ["a.b", "x.x", "end.a1", "abcdefghijkl.abcdefghijkl"]:
            self.assertIsNone(fault_of(f"state 0 end\n  a -> b: {label} goto 0\n"))
        for label in ["a.b.c", "a..b", ".", "a.", ".a", "a.9", "a .b", "a. b", "abcdefghijklm.a", "a.abcdefghijklm"]:
            self.assertEqual(fault_of(f"state 0 end\n  a -> b: {label} goto 0\n"), 2)
        for line in ["a.b -> c: x", "c -> a.b: x"]:
            self.assertEqual(fault_of(f"state 0 end\n  {line} goto 0\n"), 2)

    def test_the_sender_is_the_taker(self):
        self.assertEqual(fault_of("state 0 end\n  a -> a: x goto 0\n"), 2)
        self.assertEqual(fault_of(GOOD.replace("b -> c", "b -> b")), 6)

    def test_the_form_of_a_state(self):
        for bad in ["state 1", "state 00", "state 01", "state", "state ", "state  0", " state 0", "state 0 ", "state 0  end",
                    "state 0 End", "state 0 end ", "state 0end", "State 0", "state 0 end end", "state -1", "state +0",
                    "state a", "state 0\r", "state 0:", "", " ", "state 0 \nend", "end", "a -> b: x goto 0",
                    "state \u0660"]:
            self.assertEqual(fault_of(bad + "\n"), 1, bad)
            self.assertEqual(fault_of(bad + "\nstate 1 end\n"), 1, bad)

    def test_the_form_of_an_action(self):
        for bad in ["a -> b: x goto 0", " a -> b: x goto 0", "   a -> b: x goto 0", "\ta -> b: x goto 0",
                    "  a-> b: x goto 0", "  a ->b: x goto 0", "  a -> b : x goto 0", "  a -> b:x goto 0",
                    "  a -> b:  x goto 0", "  a -> b: x  goto 0", "  a -> b: x goto  0", "  a -> b: x goto 0 ",
                    "  a -> b: x goto", "  a -> b: x goto ", "  a -> b: x", "  a - > b: x goto 0", "  a => b: x goto 0",
                    "  a -> b x goto 0", "  a -> b:: x goto 0", "  a -> b: x; goto 0", "  a -> b: x go to 0", "  goto 0",
                    "  a -> b: x GOTO 0", "  a -> b: x goto 0 end", "  a -> b: x goto 0 goto 0", "  a  -> b: x goto 0",
                    "  a -> b: x y goto 0", "  a b -> c: x goto 0", "  -> b: x goto 0", "  ", "", " goto 0", "   goto 0",
                    "  a -> b: x goto 0\r", "  a -> b: x goto 0\n", "  a b c goto 0", "  a <- b: x goto 0"]:
            self.assertEqual(fault_of("state 0 end\n" + bad + "\n"), 3 if bad.endswith("\n") else 2, bad)

    def test_numbers(self):
        for bad in ["00", "01", "000000001", "0000000000", "1234567890", "1000000000", "-1", "-0", "+0", "0x0", "1_0", "a",
                    "0.0", "1e1", "\u0660", "\u00b2", "0 0", "?"]:
            self.assertEqual(fault_of(f"state 0 end\n  a -> b: x goto {bad}\n"), 2, bad)
            # Such a fault of form comes ahead of a number that is only too large.
            self.assertEqual(fault_of(f"state 0 end\n  a -> b: x goto 7\n  a -> b: y goto {bad}\n"), 3, bad)
        for number in [1, 2, 10, 99, 100000000, 123456789, 999999999]:
            self.assertEqual(fault_of(f"state 0 end\n  a -> b: x goto 0\n  a -> b: y goto {number}\n"), 3)
            self.assertEqual(fault_of(f"state 0 end\n  a -> b: x goto {number}\n  a -> b: x goto 0\n"), 3)
            self.assertEqual(fault_of(f"state 0 end\n  a -> b: x goto {number}\n  a -> b: y goto {number}\n"), 2)
        self.assertEqual(fault_of(GOOD.replace("x goto 1", "x goto 3")), 2)
        self.assertEqual(fault_of(GOOD.replace("c: x goto 1", "c: x goto 3")), 6)

    def test_needless_zeros_in_a_table_of_many_states(self):
        text = write_table(ring(12))
        self.assertIsNone(fault_of(text))
        self.assertEqual(fault_of(text.replace("state 10", "state 010")), 21)
        self.assertEqual(fault_of(text.replace("goto 10", "goto 010")), 20)
        self.assertEqual(fault_of(text.replace("state 1 end", "state 01 end")), 3)

    def test_the_numbers_of_the_states(self):
        self.assertEqual(fault_of("state 1 end\n"), 1)
        self.assertEqual(fault_of("state 0 end\nstate 0 end\n"), 2)
        self.assertEqual(fault_of("state 0 end\nstate 2 end\n"), 2)
        self.assertEqual(fault_of(GOOD.replace("state 2", "state 3")), 7)
        self.assertEqual(fault_of(GOOD.replace("state 1", "state 2")), 4)

    def test_actions_of_a_state_ascend(self):
        for one, other in [("a -> b: x", "a -> b: x"), ("a -> b: y", "a -> b: x"), ("a -> c: x", "a -> b: y"),
                           ("b -> a: x", "a -> b: x"), ("a -> b: x1", "a -> b: x.y"), ("a -> b: xx", "a -> b: x")]:
            self.assertEqual(fault_of(f"state 0 end\n  {one} goto 0\n  {other} goto 0\n"), 3)
            self.assertEqual(fault_of(f"state 0 end\n  {other} goto 0\n  {one} goto 0\n"), None if one != other else 3)
        text = "state 0 end\n  a -> b: x goto 0\n  a -> b: y goto 0\n  b -> a: x goto 0\n  a -> b: xx goto 0\n"
        self.assertEqual(fault_of(text), 5)
        # The same action stands at two states.
        self.assertIsNone(fault_of("state 0 end\n  b -> a: x goto 1\nstate 1 end\n  a -> b: x goto 1\n  b -> a: x goto 0\n"))

    def test_text_ahead_of_the_first_state(self):
        for ahead in ["", " ", "x", "  a -> b: x goto 0", "table"]:
            self.assertEqual(fault_of(ahead + "\nstate 0 end\n"), 1)
        self.assertEqual(fault_of(" state 0 end\n"), 1)

    def test_the_last_newline(self):
        lines = GOOD.splitlines()
        for many in range(1, len(lines) + 1):
            self.assertEqual(fault_of("\n".join(lines[:many])), many)
        self.assertEqual(fault_of("state 0 end"), 1)
        self.assertEqual(fault_of("state 0 end\n  a -> b: x goto 0"), 2)
        self.assertEqual(fault_of("state 0 end\n  a -> b: x goto 5\nstate 1"), 3)

    def test_text_behind_the_last_line(self):
        self.assertEqual(fault_of(GOOD + "\n"), 8)
        self.assertEqual(fault_of(GOOD + " "), 8)
        self.assertEqual(fault_of(GOOD + "\n\n"), 8)
        self.assertEqual(fault_of(GOOD + GOOD), 8)

    def test_other_ends_of_lines(self):
        self.assertEqual(fault_of("state 0 end\r\n"), 1)
        for sign in ["\r", "\x0b", "\x0c", "\x1c", "\x85", "\u2028"]:
            self.assertEqual(fault_of(f"state 0 end{sign}state 1 end\n"), 1)

    def test_the_empty_text(self):
        self.assertEqual(fault_of(""), 0)
        self.assertEqual(fault_of("\n"), 1)
        self.assertEqual(fault_of(" "), 1)

    def test_a_state_that_cannot_be_reached(self):
        self.assertEqual(fault_of("state 0 end\nstate 1 end\n"), 0)
        self.assertEqual(fault_of("state 0 end\nstate 1 end\n  a -> b: x goto 0\n"), 0)
        self.assertEqual(fault_of("state 0 end\nstate 1 end\n  a -> b: x goto 2\nstate 2 end\n  a -> b: x goto 1\n"), 0)
        self.assertEqual(fault_of("state 0 end\n  a -> b: x goto 2\nstate 1 end\nstate 2 end\n  a -> b: x goto 2\n"), 0)

    def test_a_state_from_which_no_end_can_be_reached(self):
        self.assertEqual(fault_of("state 0\n"), 0)
        self.assertEqual(fault_of("state 0\n  a -> b: x goto 0\n"), 0)
        self.assertEqual(fault_of("state 0 end\n  a -> b: x goto 1\nstate 1\n"), 0)
        text = "state 0 end\n  a -> b: x goto 1\nstate 1\n  a -> b: x goto 2\nstate 2\n  a -> b: x goto 1\n"
        self.assertEqual(fault_of(text), 0)
        self.assertIsNone(fault_of(text.replace("state 2", "state 2 end")))
        self.assertIsNone(fault_of(text.replace("goto 2", "goto 0").replace("state 2\n  a -> b: x goto 1\n", "")))

    def test_the_first_fault_of_form_comes_ahead_of_all_others(self):
        text = "state 0\n  a -> b: x goto 9\nstate 1\n  a -> b: x goto 8\n"
        self.assertEqual(fault_of(text), 2)
        self.assertEqual(fault_of(text + "state 2"), 5)
        self.assertEqual(fault_of(text + "state 3\n?\n"), 5)
        self.assertEqual(fault_of(text.replace("9", "0")), 4)
        self.assertEqual(fault_of(text.replace("9", "0").replace("8", "0")), 0)

    def test_the_error(self):
        with self.assertRaises(PactError) as caught:
            read_table("state 0 end\nx\n")
        self.assertIs(type(caught.exception), TableError)
        self.assertEqual(caught.exception.line, 2)

    def test_changed_texts(self):
        tables, faults = 0, set()
        for number, table in enumerate(random_tables(112, 150)):
            for chance in chances(number, 20):
                text = changed(write_table(table), chance)
                found = told(text)
                if isinstance(found, int):
                    self.assertEqual(fault_of(text), found, text)
                    faults.add(found)
                else:
                    self.assertEqual(read_table(text), found)
                    self.assertEqual(write_table(found), text)
                    tables += found != table
        self.assertGreater(tables, 100)
        self.assertGreater(len(faults), 12)


def changed(text, chance):
    """The text with a character or a line of it changed."""
    if chance.randrange(2):
        at = chance.randrange(len(text) + 1)
        return text[:at] + chance.choice(["", *"\n .abx0129"]) + text[at + chance.randrange(2):]
    lines = text.splitlines(True)
    at = chance.randrange(len(lines))
    kind = chance.randrange(5)
    if kind == 0:
        lines.insert(chance.randrange(len(lines) + 1), lines[at])
    elif kind == 1:
        del lines[at]
    elif kind == 2:
        lines[at] = lines[at].replace(" end\n", "\n") if " end" in lines[at] else lines[at].replace("\n", " end\n")
    else:
        lines[at] = re.sub("goto [0-9]+", f"goto {chance.randrange(8)}", lines[at])
    return "".join(lines)


if __name__ == "__main__":
    unittest.main()
