"""Points 1 to 4: programs and the refusals that are due (checked in programs.py)."""

import copy
import unittest

from slotfitter.errors import FitError, NoBlock, NoName, NoWay, SignTwice, TooMany
from slotfitter.programs import checked
from tests.samples import check_new, loops, make, signed, tell, word

EMPTY = ([], [])


class FineTest(unittest.TestCase):
    def assert_fine(self, program):
        before = copy.deepcopy(program)
        self.assertEqual(check_new(self, checked, program), before)

    def test_a_program_with_loops(self):
        self.assert_fine(loops())

    def test_one_block_without_rows_or_ways(self):
        self.assert_fine([([], [])])

    def test_a_block_with_rows_alone_and_one_with_ways_alone(self):
        self.assert_fine([([tell("a")], []), ([], [0, 1])])

    def test_rows_of_none_one_and_two_reads(self):
        self.assert_fine([([make("a", "f"), make("b", "g", "a"), make("c", "h", "a", "b")], [])])

    def test_twice_the_same_read_and_the_slot_that_is_made(self):
        self.assert_fine([([make("a", "f", "b", "b"), make("a", "g", "a"), make("a", "h", "a", "a")], [])])

    def test_a_sign_may_be_the_name_of_a_slot(self):
        self.assert_fine([([make("a", "a", "a"), make("a", "b", "b"), tell("b")], [])])

    def test_one_slot_made_and_told_often(self):
        self.assert_fine([([make("a", "f"), make("a", "g"), tell("a"), tell("a")], [])])

    def test_names_of_1_and_12_letters(self):
        self.assert_fine([([make("a", "b", "c"), make("a" * 12, "b" * 12, "c" * 12, "d"), tell("z" * 12)], [])])

    def test_40_rows(self):
        self.assert_fine([(signed(40), []), (signed(40, 40), [])])
        self.assert_fine([([tell("a")] * 40, [])])

    def test_9_ways(self):
        self.assert_fine([([], [0, 1] * 4 + [1]), ([], [])])

    def test_60_blocks(self):
        self.assert_fine([([make("a", word(n))], [(n + 1) % 60, 59]) for n in range(60)])

    def test_a_program_of_the_utmost_size(self):
        self.assert_fine([(signed(40, 40 * n), [n] * 9) for n in range(60)])

    def test_ways_to_the_own_block_and_several_to_one(self):
        self.assert_fine([([], [0]), ([], [1, 0, 0, 1, 1])])

    def test_blocks_that_are_one_object_become_lists_of_their_own(self):
        block = ([tell("a")], [0])
        program = checked([block, block])
        program[0][0].append(tell("b"))
        program[0][1].append(1)
        self.assertEqual(program[1], ([tell("a")], [0]))
        self.assertEqual(block, ([tell("a")], [0]))

    def test_blocks_are_tuples_of_lists(self):
        program = checked(loops())
        self.assertIs(type(program), list)
        for block in program:
            self.assertIs(type(block), tuple)
            self.assertEqual([type(part) for part in block], [list, list])
            self.assertEqual({type(row) for row in block[0]} - {tuple}, set())


class RefusedTest(unittest.TestCase):
    def assert_refused(self, program, kind):
        before = copy.deepcopy(program)
        for _ in range(2):
            with self.assertRaises(FitError) as caught:
                checked(program)
            self.assertIs(type(caught.exception), kind)
            self.assertIsInstance(caught.exception, ValueError)
            self.assertEqual(program, before)

    def test_no_block(self):
        self.assert_refused([], NoBlock)

    def test_over_60_blocks(self):
        self.assert_refused([EMPTY] * 61, TooMany)
        self.assert_refused([EMPTY] * 200, TooMany)

    def test_over_40_rows(self):
        self.assert_refused([(signed(41), [])], TooMany)
        self.assert_refused([([tell("a")] * 41, [])], TooMany)
        self.assert_refused([EMPTY, ([tell("a")] * 41, [])], TooMany)

    def test_over_9_ways(self):
        self.assert_refused([([], [0] * 10)], TooMany)
        self.assert_refused([EMPTY, ([], [0] * 10)], TooMany)

    def test_a_slot_sign_or_read_that_is_no_name(self):
        for wrong in ["", "abcdefghijklm", "A", "a b", " ", "a1", "=", "~", None, 7, b"a", ["a"], ("a",), {}]:
            for row in [make(wrong, "f"), make("a", wrong), make("a", "f", wrong), make("a", "f", wrong, "a"),
                        make("a", "f", "a", wrong), tell(wrong)]:
                self.assert_refused([([tell("a"), row], [])], NoName)
                self.assert_refused([EMPTY, ([row, tell("a")], [0])], NoName)

    def test_a_third_read(self):
        self.assert_refused([([make("a", "f", "a", "b", "c")], [])], TooMany)
        self.assert_refused([([make("a", "f", "a", "a", "a")], [])], TooMany)
        self.assert_refused([([make("a", "f", *"abcdefgh")], [])], TooMany)

    def test_a_sign_twice_in_one_block(self):
        self.assert_refused([([make("a", "f"), make("b", "f")], [])], SignTwice)
        self.assert_refused([([make("a", "f"), tell("a"), make("a", "g"), make("a", "f")], [])], SignTwice)

    def test_a_sign_twice_in_two_blocks(self):
        self.assert_refused([([make("a", "f")], [1]), EMPTY, ([make("b", "f", "a")], [])], SignTwice)

    def test_a_way_that_is_not_the_number_of_a_block(self):
        for way in [-1, -2, 2, 3, 60, -10 ** 30, 10 ** 30, 10 ** 5000]:
            self.assert_refused([([], [way]), EMPTY], NoWay)
            self.assert_refused([EMPTY, ([], [0, 1, way])], NoWay)
        self.assert_refused([([], [1])], NoWay)

    def test_a_way_that_is_no_number(self):
        for way in [None, "0", "", 0.0, [0], (0,)]:
            self.assert_refused([([], [way])], NoWay)


class FirstRefusalTest(unittest.TestCase):
    """Two faults in one program: the first one that is due is raised."""

    ROWS = ([tell("a")] * 41, TooMany)
    NAME = ([tell("A")], NoName)
    READS = ([make("a", "g", "a", "a", "a")], TooMany)
    SIGN = ([make("a", "f"), make("a", "f")], SignTwice)

    def assert_first(self, program, kind):
        with self.assertRaises(FitError) as caught:
            checked(program)
        self.assertIs(type(caught.exception), kind)

    def test_too_many_blocks_ahead_of_all_in_a_block(self):
        for rows, ways in [([tell("A")], []), ([make("a", "f")], []), ([], [61]), ([], [-1])]:
            self.assert_first([(rows, ways)] * 61, TooMany)

    def test_the_sizes_of_a_block_ahead_of_its_rows_and_ways(self):
        self.assert_first([([tell("A")] * 41, [])], TooMany)
        self.assert_first([([make("a", "f")] * 41, [])], TooMany)
        self.assert_first([([tell("a")] * 41, [1])], TooMany)
        self.assert_first([([tell("A")], [0] * 10)], TooMany)
        self.assert_first([([make("a", "f")] * 2, [0] * 10)], TooMany)
        self.assert_first([([], [1] * 10)], TooMany)

    def test_rows_ahead_of_the_ways_behind_them(self):
        for rows, kind in [self.NAME, self.READS, self.SIGN]:
            self.assert_first([(rows, [1])], kind)

    def test_each_fault_of_a_block_ahead_of_each_one_of_the_next(self):
        faults = [self.ROWS, self.NAME, self.READS, self.SIGN]
        blocks = [((rows, []), kind) for rows, kind in faults]
        blocks = blocks + [(([], [0] * 10), TooMany), (([], [-1]), NoWay)]
        for block, kind in blocks:
            for later, _ in blocks:
                self.assert_first([block, later], kind)

    def test_a_way_ahead_of_the_next_block(self):
        self.assert_first([([], [2]), ([tell("a")] * 41, [])], NoWay)

    def test_each_fault_of_a_row_ahead_of_each_one_of_the_next(self):
        faults = [self.NAME, self.READS, self.SIGN]
        for rows, kind in faults:
            for later, _ in faults:
                self.assert_first([(rows + later, [])], kind)

    def test_no_name_ahead_of_the_reads_and_the_sign_of_its_row(self):
        self.assert_first([([make("a", "f", "a", "b", "C")], [])], NoName)
        self.assert_first([([make("A", "f", "a", "b", "c")], [])], NoName)
        self.assert_first([([make("a", "F", "a", "b", "c")], [])], NoName)
        self.assert_first([([make("a", "f"), make("A", "f")], [])], NoName)
        self.assert_first([([make("a", "f"), make("a", "f", "a", "B")], [])], NoName)

    def test_too_many_reads_ahead_of_the_sign_of_its_row(self):
        self.assert_first([([make("a", "f"), make("a", "f", "a", "b", "c")], [])], TooMany)

    def test_the_first_row_that_is_wrong(self):
        self.assert_first([([make("a", "f"), make("b", "f"), tell("A")], [])], SignTwice)
        self.assert_first([([make("a", "f"), tell("A"), make("b", "f")], [])], NoName)


if __name__ == "__main__":
    unittest.main()
