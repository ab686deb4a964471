"""Points 1, 4 and 14: programs as texts (texts.py)."""

import random
import re
import unittest

from slotfitter.errors import FitError, NoBlock, NoLine, NoName, NoWay, SignTwice, TooMany
from slotfitter.programs import checked
from slotfitter.texts import read, shown
from tests.samples import any_program, check_new, loops, make, signed, tell, wide

LOOPS = """block
a = f
b = g a
to 1 2
block
b = h b a
c = k c
tell b
to 1 0 2
block
d = m b b
tell d
tell e
to
block
tell a
to 2 3
"""

# Point 14 as one pattern: a word is whatever has no blank and no line end.
WRITTEN = re.compile(r"(block\n([^ \n]+ =( [^ \n]+)+\n|tell [^ \n]+\n)*to( (0|[1-9][0-9]?))*\n)*")


class ShownTest(unittest.TestCase):
    def shown(self, *program):
        return check_new(self, shown, list(program))

    def test_a_program_with_loops(self):
        self.assertEqual(check_new(self, shown, loops()), LOOPS)

    def test_one_block_without_rows(self):
        self.assertEqual(self.shown(([], [])), "block\nto\n")

    def test_ways_in_figures(self):
        self.assertEqual(self.shown(([], [0])), "block\nto 0\n")
        program = [([], [])] * 59 + [([], [0, 9, 10, 59, 0, 0, 11, 20, 7])]
        self.assertEqual(self.shown(*program), "block\nto\n" * 59 + "block\nto 0 9 10 59 0 0 11 20 7\n")

    def test_rows_of_none_one_and_two_reads(self):
        rows = [make("a", "f"), make("ab", "g", "abc"), make("a", "h", "a", "a"), tell("ab")]
        self.assertEqual(self.shown((rows, [])), "block\na = f\nab = g abc\na = h a a\ntell ab\nto\n")

    def test_slots_called_tell_to_and_block(self):
        rows = [make("tell", "to", "block"), make("to", "tell"), make("block", "block", "to", "tell"),
                tell("tell"), tell("to"), tell("block")]
        self.assertEqual(self.shown((rows, [0])), "block\ntell = to block\nto = tell\nblock = block to tell\n"
                                                  "tell tell\ntell to\ntell block\nto 0\n")


class ReadTest(unittest.TestCase):
    def read(self, text):
        return check_new(self, read, text)

    def assert_block(self, lines, rows):
        self.assertEqual(self.read("block\n" + lines + "to\n"), [(rows, [])])

    def test_a_program_with_loops(self):
        self.assertEqual(self.read(LOOPS), loops())

    def test_one_block_without_rows(self):
        self.assertEqual(self.read("block\nto\n"), [([], [])])
        self.assertEqual(self.read("block\nto 0\n"), [([], [0])])

    def test_ways_of_one_and_two_figures(self):
        ways = [0, 9, 10, 59, 0, 0, 11, 20, 7]
        self.assertEqual(self.read("block\nto 0 9 10 59 0 0 11 20 7\n" + "block\nto\n" * 59),
                         [([], ways)] + [([], [])] * 59)

    def test_each_way_there_is(self):
        for way in range(60):
            self.assertEqual(read(f"block\nto {way}\n" + "block\nto\n" * 59)[0], ([], [way]))

    def test_rows_of_none_one_and_two_reads(self):
        self.assert_block("a = f\n", [make("a", "f")])
        self.assert_block("a = f b\n", [make("a", "f", "b")])
        self.assert_block("a = f b a\n", [make("a", "f", "b", "a")])
        self.assert_block("tell abc\n", [tell("abc")])

    def test_slots_called_tell_to_and_block(self):
        self.assert_block("tell = f\n", [make("tell", "f")])
        self.assert_block("tell = tell tell\n", [make("tell", "tell", "tell")])
        self.assert_block("to = to\n", [make("to", "to")])
        self.assert_block("to = f block tell\n", [make("to", "f", "block", "tell")])
        self.assert_block("block = block\n", [make("block", "block")])
        self.assert_block("tell tell\ntell to\ntell block\n", [tell("tell"), tell("to"), tell("block")])

    def test_its_rows_are_tuples_and_its_blocks_tuples_of_lists(self):
        for block in read(LOOPS):
            self.assertIs(type(block), tuple)
            self.assertEqual([type(part) for part in block], [list, list])
            for row in block[0]:
                self.assertIs(type(row), tuple)
                self.assertIs(type(row[-1]), str if row[0] == "tell" else tuple)
            for way in block[1]:
                self.assertIs(type(way), int)

    def test_what_is_shown_is_read_again(self):
        chance = random.Random(18)
        slots = ["a", "tell", "to", "block", "make", "abcdefghijkl"]
        for _ in range(200):
            program = any_program(chance, slots=slots)
            self.assertEqual(read(shown(program)), program)
        for program in [wide(), [(signed(40, 40 * block), [block] * 9) for block in range(60)]]:
            self.assertEqual(read(shown(program)), program)


class NoLineTest(unittest.TestCase):
    def assert_no_line(self, *texts):
        for text in texts:
            with self.assertRaises(FitError, msg=repr(text)) as caught:
                read(text)
            self.assertIs(type(caught.exception), NoLine, repr(text))

    def assert_no_lines(self, *lines):
        """Each line is refused at each place of a text that is fine without it."""
        fine = ["block", "a = f", "tell a", "to 0 1", "block", "to"]
        for line in lines:
            for place in range(len(fine) + 1):
                self.assert_no_line("".join(text + "\n" for text in fine[:place] + [line] + fine[place:]))

    def test_any_other_line(self):
        self.assert_no_lines("a", "make a f", "a f", "a f = b", "= a", "=", "a =", "tell", "tell a b", "tell a = b",
                             "Block", "BLOCK", "blocks", "block 0", "block a", "to a", "to0", "a=f", "a == f", "a=f b",
                             "a := f", "Tell a", "tel a", "# a", "tell\ta", "to\t0", "a\t=\tf", "block\t", "\t")

    def test_empty_words(self):
        self.assert_no_lines("", " ", "  ", " block", "block ", " a = f", "a = f ", "a  = f", "a =  f", "a = ",
                             "a = f  b", "a = f b ", " = f", "tell ", "tell  a", " tell a", "tell a ", "to ",
                             " to", "to  0", "to 0 ", " to 0", "to 0  1")

    def test_ways_that_are_no_one_or_two_figures(self):
        self.assert_no_lines("to 00", "to 01", "to 09", "to 000", "to 010", "to 100", "to 999", "to 1000", "to -1",
                             "to +1", "to 1.", "to 1,0", "to 0x", "to a", "to 0 a", "to 0 01", "to 00 0", "to 1_0",
                             "to _1", "to ~", "to -", "to =", "to 0 =", "to 0\t", "to \t0", "to " + "1" * 5000)

    def test_lines_at_the_wrong_place(self):
        self.assert_no_line("to\n", "tell a\n", "a = f\n", "to\nblock\n", "tell a\nblock\nto\n", "a = f\nblock\nto\n",
                            "block\nblock\nto\n", "block\nto\nto\n", "block\nto\ntell a\n", "block\nto\na = f\n",
                            "block\nto\ntell a\nto\n", "block\ntell a\nblock\nto\n", "block\nto\nblock = f\n",
                            "block = f\nto\n", "block\nblock =\nto\n", "block\nto =\n")

    def test_a_text_that_does_not_end_behind_a_to_lines_end(self):
        self.assert_no_line("block", "block\n", "block\nto", "block\ntell a\n", "block\na = f\n",
                            "block\nto 0\nblock\n", "block\nto\nblock\nto", "block\nto\nblock\ntell a\n",
                            "block\nto\n ", "block\nto\nblock", "block\nto\n\n", "\nblock\nto\n",
                            "\n", "\n\n", " ", "a")
        for length in range(1, len(LOOPS)):
            if not WRITTEN.fullmatch(LOOPS[:length]):
                self.assert_no_line(LOOPS[:length])

    def test_other_line_ends(self):
        self.assert_no_line("block\r\nto\r\n", "block\rto\r", "block\nto\r\n", "block\r\nto\n")

    def test_a_wrong_line_ahead_of_each_other_refusal(self):
        for text in ["block\nA = f\nto\n", "block\na = f\na = f\nto\n", "block\na = f a b c\nto\n", "block\nto 7\n",
                     "block\nto" + " 0" * 10 + "\n", "block\n" + "tell a\n" * 41 + "to\n", "block\nto\n" * 61]:
            self.assert_no_line(text + "to\n", text + "block\n", text + "\n", text[:-1])

    def test_texts_of_all_kinds(self):
        chance = random.Random(19)
        signs = "abt =0179\n\t-Z~" + "\n " * 5
        pieces = ["block", "to", "tell", " = ", "tell a\n", "block\n", "to 1\n", "to\n", "a = b\n",
                  " 0", " 10", " 01"]
        seen = {True: 0, False: 0}
        for _ in range(4000):
            text = list(LOOPS[:chance.choice([0, 12, 23, 70, len(LOOPS)])])
            for _ in range(chance.randint(0, 3)):
                at = chance.randint(0, len(text))
                piece = chance.choice(signs) if chance.random() < 0.6 else chance.choice(pieces)
                text[at:at + chance.randint(0, 2)] = piece
            text = "".join(text)
            is_written = WRITTEN.fullmatch(text) is not None
            seen[is_written] += 1
            self.assertEqual(kind_of(text) is not NoLine, is_written, repr(text))
            if kind_of(text) is None:
                self.assertEqual(shown(read(text)), text)
        self.assertGreater(min(seen.values()), 300)


def kind_of(text):
    """The class of what refuses a text, or None."""
    try:
        read(text)
    except FitError as error:
        return type(error)
    return None


class RefusedTest(unittest.TestCase):
    """What is read is refused as by checked."""

    def assert_refused(self, text, kind, program):
        with self.assertRaises(FitError) as caught:
            read(text)
        self.assertIs(type(caught.exception), kind, repr(text))
        with self.assertRaises(kind):
            checked(program)

    def test_the_empty_text(self):
        self.assert_refused("", NoBlock, [])

    def test_too_many(self):
        self.assert_refused("block\nto\n" * 61, TooMany, [([], [])] * 61)
        self.assert_refused("block\n" + "tell a\n" * 41 + "to\n", TooMany, [([tell("a")] * 41, [])])
        self.assert_refused("block\nto" + " 0" * 10 + "\n", TooMany, [([], [0] * 10)])
        self.assert_refused("block\nx = f a b c\nto\n", TooMany, [([make("x", "f", "a", "b", "c")], [])])

    def test_no_name(self):
        for word in ["A", "a1", "abcdefghijklm", "=", "a\tb", "~", "0", "-", "a,b", "a=", "\t", "block\t"]:
            for line, row in [(f"{word} = f", make(word, "f")), (f"a = {word}", make("a", word)),
                              (f"a = f {word}", make("a", "f", word)), (f"a = f b {word}", make("a", "f", "b", word)),
                              (f"tell {word}", tell(word))]:
                self.assert_refused(f"block\n{line}\nto\n", NoName, [([row], [])])

    def test_lines_that_could_be_meant_as_others(self):
        self.assert_refused("block\ntell =\nto\n", NoName, [([tell("=")], [])])
        self.assert_refused("block\nto = 1\nto\n", NoName, [([make("to", "1")], [])])
        self.assert_refused("block\ntell = =\nto\n", NoName, [([make("tell", "=")], [])])
        self.assert_refused("block\n= = =\nto\n", NoName, [([make("=", "=")], [])])

    def test_sign_twice(self):
        self.assert_refused("block\na = f\nb = f a\nto\n", SignTwice, [([make("a", "f"), make("b", "f", "a")], [])])
        self.assert_refused("block\na = f\nto 1\nblock\na = f\nto\n", SignTwice,
                            [([make("a", "f")], [1]), ([make("a", "f")], [])])

    def test_no_way(self):
        for way in [1, 2, 9, 10, 59, 60, 99]:
            self.assert_refused(f"block\nto {way}\n", NoWay, [([], [way])])
        self.assert_refused("block\nto 0 1\nblock\nto 2\n", NoWay, [([], [0, 1]), ([], [2])])

    def test_the_first_refusal_that_is_due(self):
        self.assert_refused("block\nA = f\nto 7\n", NoName, [([make("A", "f")], [7])])
        self.assert_refused("block\nto 7\nblock\ntell A\nto\n", NoWay, [([], [7]), ([tell("A")], [])])
        self.assert_refused("block\na = f a b C\nto\n", NoName, [([make("a", "f", "a", "b", "C")], [])])
        self.assert_refused("block\ntell A\nto 99\n" * 61, TooMany, [([tell("A")], [99])] * 61)

    def test_a_refusal_is_the_one_of_checked(self):
        chance = random.Random(20)
        slots = ["a", "b", "A", "tell", "abcdefghijklm"]
        seen = set()
        for _ in range(400):
            program = any_program(chance, blocks=3, rows=3, slots=slots[:chance.randint(2, 5)])
            for rows, ways in program:
                if chance.random() < 0.2:
                    rows.append(make("a", "aaa", *"abc"[:chance.randint(0, 3)]))
                if chance.random() < 0.2:
                    ways.append(chance.randint(0, 4))
            kind = kind_of(shown(program))
            seen.add(kind)
            if kind is None:
                self.assertEqual(read(shown(program)), program)
            else:
                with self.assertRaises(kind):
                    checked(program)
        self.assertEqual(seen, {None, NoName, TooMany, SignTwice, NoWay})


if __name__ == "__main__":
    unittest.main()
