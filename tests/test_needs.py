"""Points 1 and 9: what is needed (needs.py)."""

import itertools
import random
import unittest

from slotfitter.needs import ahead, needed
from slotfitter.runs import told
from tests.samples import all_roads, any_program, any_works, check_new, fed, loops, make, tell


def one_row_ahead(row, behind):
    """The set of the slots that are needed ahead of a row, as point 9 says it."""
    if row[0] == "tell":
        return behind | {row[1]}
    if row[1] in behind:
        return behind - {row[1]} | set(row[3])
    return behind


def rows_ahead(rows, behind):
    for row in reversed(rows):
        behind = one_row_ahead(row, behind)
    return behind


def plainly_needed(program):
    """What is needed ahead of each block: nothing at first, and what the rules ask for, until they ask no more."""
    found = [set() for _ in program]
    while True:
        more = [rows_ahead(rows, set().union(*[found[way] for way in ways])) for rows, ways in program]
        if more == found:
            return [sorted(slots) for slots in found]
        found = more


class AheadTest(unittest.TestCase):
    def ahead(self, rows, behind):
        return check_new(self, ahead, rows, behind)

    def test_without_rows_it_is_what_is_needed_behind(self):
        self.assertEqual(self.ahead([], []), [])
        self.assertEqual(self.ahead([], ["a"]), ["a"])

    def test_in_the_order_of_their_texts_and_each_once(self):
        for slots in itertools.permutations(["b", "a", "ab", "b"]):
            self.assertEqual(self.ahead([], list(slots)), ["a", "ab", "b"])
        self.assertEqual(self.ahead([tell("m"), tell("z"), tell("b")], ["zz", "a", "m"]), ["a", "b", "m", "z", "zz"])

    def test_a_tell_row_needs_its_slot_and_what_is_needed_behind_it(self):
        self.assertEqual(self.ahead([tell("b")], []), ["b"])
        self.assertEqual(self.ahead([tell("b")], ["a"]), ["a", "b"])
        self.assertEqual(self.ahead([tell("b")], ["b"]), ["b"])

    def test_a_make_row_whose_slot_is_needed_needs_its_reads_instead(self):
        self.assertEqual(self.ahead([make("a", "f")], ["a"]), [])
        self.assertEqual(self.ahead([make("a", "f", "b")], ["a"]), ["b"])
        self.assertEqual(self.ahead([make("a", "f", "c", "b")], ["d", "a"]), ["b", "c", "d"])
        self.assertEqual(self.ahead([make("a", "f", "b", "b")], ["a"]), ["b"])
        self.assertEqual(self.ahead([make("a", "f", "b")], ["a", "b"]), ["b"])

    def test_a_make_row_that_reads_its_own_slot(self):
        self.assertEqual(self.ahead([make("a", "f", "a")], ["a"]), ["a"])
        self.assertEqual(self.ahead([make("a", "f", "a", "b")], ["a"]), ["a", "b"])
        self.assertEqual(self.ahead([make("a", "f", "b", "a")], ["a"]), ["a", "b"])
        self.assertEqual(self.ahead([make("a", "f", "a", "a")], ["a"]), ["a"])

    def test_another_make_row_needs_nothing(self):
        self.assertEqual(self.ahead([make("a", "f", "b", "c")], []), [])
        self.assertEqual(self.ahead([make("a", "f", "b", "c")], ["d"]), ["d"])
        self.assertEqual(self.ahead([make("a", "f", "a")], ["b"]), ["b"])

    def test_rows_go_from_the_last_to_the_first(self):
        self.assertEqual(self.ahead([make("a", "f", "b"), tell("a")], []), ["b"])
        self.assertEqual(self.ahead([tell("a"), make("a", "f", "b")], []), ["a"])
        self.assertEqual(self.ahead([make("c", "f", "d"), make("b", "g", "c"), make("a", "h", "b")], ["a"]), ["d"])
        self.assertEqual(self.ahead([make("a", "h", "b"), make("b", "g", "c"), make("c", "f", "d")], ["a"]), ["b"])
        self.assertEqual(self.ahead([make("a", "f", "b"), make("a", "g", "c")], ["a"]), ["c"])

    def test_a_sign_is_no_slot(self):
        self.assertEqual(self.ahead([make("a", "b", "c")], ["b"]), ["b"])
        self.assertEqual(self.ahead([make("a", "b", "c")], ["a"]), ["c"])

    def test_a_slot_called_tell(self):
        self.assertEqual(self.ahead([make("tell", "f", "a")], []), [])
        self.assertEqual(self.ahead([make("tell", "f", "a")], ["tell"]), ["a"])
        self.assertEqual(self.ahead([tell("tell")], []), ["tell"])

    def test_39_rows(self):
        rows = [make("a", "f", "a")] * 38
        self.assertEqual(self.ahead(rows + [tell("a")], ["c"]), ["a", "c"])
        self.assertEqual(self.ahead([make("a", "g")] + rows, ["a"]), [])

    def test_it_is_what_point_9_says_row_by_row(self):
        chance = random.Random(9)
        for _ in range(500):
            rows = any_program(chance, blocks=1, rows=8, slots="abcde")[0][0]
            behind = [chance.choice("abcdef") for _ in range(chance.randint(0, 4))]
            self.assertEqual(ahead(rows, behind), sorted(rows_ahead(rows, set(behind))), (rows, behind))


class NeededTest(unittest.TestCase):
    def needed(self, *program):
        return check_new(self, needed, list(program))

    def test_one_block_without_rows(self):
        self.assertEqual(self.needed(([], [])), [[]])
        self.assertEqual(self.needed(([], [0])), [[]])

    def test_one_block(self):
        self.assertEqual(self.needed(([tell("b"), make("a", "f", "c"), tell("a")], [])), [["b", "c"]])

    def test_what_the_blocks_of_the_ways_need_is_needed_behind(self):
        ends = [([tell("a")], []), ([tell("b")], [])]
        self.assertEqual(self.needed(([], [1, 2]), *ends), [["a", "b"], ["a"], ["b"]])
        self.assertEqual(self.needed(([make("a", "f", "c")], [2, 1]), *ends), [["b", "c"], ["a"], ["b"]])
        self.assertEqual(self.needed(([make("a", "f", "c")], [2]), *ends), [["b"], ["a"], ["b"]])

    def test_ways_that_lead_to_the_same_block_several_times(self):
        self.assertEqual(self.needed(([], [1, 1, 1]), ([tell("a")], [])), [["a"], ["a"]])

    def test_blocks_that_are_not_reached(self):
        self.assertEqual(self.needed(([make("a", "f", "b")], []), ([tell("a")], [0]), ([make("a", "g", "c")], [1])),
                         [[], ["a"], ["c"]])
        self.assertEqual(check_new(self, needed, loops()), [["e"], ["a", "b", "e"], ["b", "e"], ["a", "b", "e"]])

    def test_a_block_that_leads_to_itself(self):
        self.assertEqual(self.needed(([tell("a"), make("a", "f", "b")], [0])), [["a", "b"]])
        self.assertEqual(check_new(self, needed, fed()), [["a", "b", "c"]])

    def test_a_row_that_only_feeds_itself_makes_nothing_needed(self):
        self.assertEqual(self.needed(([make("a", "f", "a")], [0])), [[]])
        self.assertEqual(self.needed(([make("a", "f", "b")], [1]), ([make("b", "g", "a")], [0])), [[], []])
        self.assertEqual(self.needed(([make("a", "f", "a", "b"), tell("c")], [0])), [["c"]])

    def test_a_loop_that_feeds_what_is_told_behind_it(self):
        self.assertEqual(self.needed(([make("a", "f", "b")], [1]), ([make("b", "g", "a")], [0, 2]), ([tell("b")], [])),
                         [["b"], ["a"], ["b"]])

    def test_it_is_the_fewest_by_the_rules(self):
        chance = random.Random(90)
        for _ in range(500):
            program = any_program(chance, blocks=5, slots="abcd", tells=0.15)
            self.assertEqual(needed(program), plainly_needed(program), program)

    def test_a_slot_is_needed_just_where_some_run_tells_what_hangs_on_it(self):
        chance = random.Random(91)
        for _ in range(300):
            program = any_program(chance, blocks=2, ways=2)
            works = any_works(chance, program)
            roads = list(all_roads(program, 6))
            start = {slot: chance.randint(1, 10 ** 9) for slot in "abc"}
            for slot in "abc":
                other = {**start, slot: 0}
                hangs = any(told(program, start, works, road) != told(program, other, works, road) for road in roads)
                self.assertEqual(slot in needed(program)[0], hangs, (program, slot))


if __name__ == "__main__":
    unittest.main()
