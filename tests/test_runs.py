"""Points 1, 5, 6 and 7: runs and roads (runs.py)."""

import random
import unittest

from slotfitter.rows import done
from slotfitter.runs import blocks_on, told
from tests.samples import any_program, any_works, check_new, loops, make, tell, word


class BlocksOnTest(unittest.TestCase):
    def blocks_on(self, ways, road):
        return check_new(self, blocks_on, [([], list(row)) for row in ways], road)

    def test_block_0_first_and_an_empty_road(self):
        self.assertEqual(self.blocks_on([[]], []), [0])
        self.assertEqual(self.blocks_on([[1], [0]], []), [0])

    def test_each_number_takes_a_way(self):
        ways = [[1, 2], [2, 0, 1], [0]]
        self.assertEqual(self.blocks_on(ways, [0, 0, 0, 1, 0]), [0, 1, 2, 0, 2, 0])
        self.assertEqual(self.blocks_on(ways, [0, 2, 1]), [0, 1, 1, 0])

    def test_a_way_to_the_own_block_and_several_to_one(self):
        self.assertEqual(self.blocks_on([[0, 1, 1], [1]], [0, 0, 1, 0]), [0, 0, 0, 1, 1])
        self.assertEqual(self.blocks_on([[0, 1, 1], [1]], [2]), [0, 1])

    def test_the_run_ends_at_a_block_without_ways(self):
        self.assertEqual(self.blocks_on([[]], [0, 0]), [0])
        self.assertEqual(self.blocks_on([[1], []], [0, 0, 0, 5, -5]), [0, 1])

    def test_numbers_beyond_the_number_of_ways(self):
        ways = [[0, 1, 2], [0, 1, 2], [0, 1, 2]]
        for number in range(30):
            self.assertEqual(self.blocks_on(ways, [number]), [0, number % 3])
        self.assertEqual(self.blocks_on([[1], [0]], [7, 8, 9]), [0, 1, 0, 1])

    def test_numbers_below_nought(self):
        ways = [[0, 1, 2], [], []]
        for number, block in [(-1, 2), (-2, 1), (-3, 0), (-4, 2), (-5, 1), (-6, 0), (-30, 0), (-31, 2)]:
            self.assertEqual(self.blocks_on(ways, [number]), [0, block])

    def test_numbers_of_30_figures(self):
        ways = [[0, 1, 2, 3, 4, 5, 6], [], [], [], [], [], []]
        most = 10 ** 30 - 1
        for number in [most, most - 1, most - 6, -most, 1 - most, 5 - most]:
            self.assertEqual(self.blocks_on(ways, [number])[1], number - number // 7 * 7)

    def test_a_road_of_200_numbers(self):
        self.assertEqual(self.blocks_on([[1, 2], [0, 2], [1, 0]], [0, 1, -1] * 66 + [0, 1]),
                         [0] + [1, 2, 0] * 66 + [1, 2])


class ToldTest(unittest.TestCase):
    def told(self, program, start, works, road):
        return check_new(self, told, program, start, works, road)

    def test_nothing_is_told(self):
        self.assertEqual(self.told([([], [])], {}, {}, []), [])
        self.assertEqual(self.told([([make("a", "f")], [0])], {"a": 3}, {}, [0, 0]), [])

    def test_a_tell_row_tells_its_slots_number(self):
        self.assertEqual(self.told([([tell("a"), tell("b"), tell("a")], [])], {"a": 7, "b": -2}, {}, []), [7, -2, 7])

    def test_a_slot_that_the_start_does_not_have_holds_0(self):
        self.assertEqual(self.told([([tell("a"), tell("b")], [])], {"b": 5}, {}, []), [0, 5])
        self.assertEqual(self.told([([make("a", "f", "b"), tell("a")], [])], {}, {"f": (5, 5, 2)}, []), [2])

    def test_rows_are_done_in_order(self):
        rows = [tell("a"), make("a", "f"), tell("a"), make("b", "g", "a"), make("a", "h", "a", "b"), tell("a"), tell("b")]
        works = {"f": (9, 9, 4), "g": (3, 9, 1), "h": (10, 1, 2)}
        self.assertEqual(self.told([(rows, [])], {"a": 1, "b": 1}, works, []), [1, 4, 55, 13])

    def test_works_are_1_1_0_where_a_sign_has_none(self):
        rows = [make("c", "f", "a", "b"), tell("c"), make("c", "g", "a"), tell("c"), make("c", "h"), tell("c")]
        self.assertEqual(self.told([(rows, [])], {"a": 7, "b": 11}, {}, []), [18, 7, 0])
        self.assertEqual(self.told([(rows, [])], {"a": 7, "b": 11}, {"g": (0, 0, 5)}, []), [18, 5, 0])

    def test_a_row_that_reads_the_slot_it_makes_round_a_loop(self):
        program = [([make("a", "f", "a"), tell("a")], [0])]
        self.assertEqual(self.told(program, {"a": 1}, {"f": (2, 0, 1)}, [0, 0, 0]), [3, 7, 15, 31])

    def test_a_road_through_loops(self):
        works = {"f": (0, 0, 2), "g": (3, 0, 0), "h": (1, 1, 0), "m": (1, 10, 0)}
        # Block 0 makes a 2 and b 6; each time round block 1 puts 2 more into b and tells it.
        self.assertEqual(self.told(loops(), {"e": 5}, works, []), [])
        self.assertEqual(self.told(loops(), {"e": 5}, works, [1]), [66, 5])
        self.assertEqual(self.told(loops(), {"e": 5}, works, [0, 0, 3, 2]), [8, 10, 12, 132, 5])
        self.assertEqual(self.told(loops(), {"e": 5}, works, [0, 1, 0, -2]), [8, 8])

    def test_rows_behind_the_last_way_are_done(self):
        self.assertEqual(self.told([([tell("a")], [1]), ([tell("b")], [0])], {"a": 1, "b": 2}, {}, [0]), [1, 2])
        self.assertEqual(self.told([([tell("a")], [1]), ([tell("b")], [0])], {"a": 1, "b": 2}, {}, []), [1])

    def test_a_road_that_is_longer_than_the_run(self):
        program = [([tell("a")], [1]), ([tell("b")], [])]
        self.assertEqual(self.told(program, {"a": 1, "b": 2}, {}, [0, 0, 0, 0]), [1, 2])

    def test_numbers_of_30_figures(self):
        most = 10 ** 30 - 1
        program = [([make("c", "f", "a", "b"), tell("c"), tell("a"), tell("b")], [])]
        self.assertEqual(self.told(program, {"a": most, "b": -most}, {"f": (most, most, -most)}, []),
                         [-most, most, -most])
        self.assertEqual(self.told(program, {"a": -most, "b": most}, {"f": (most, -most, -most)}, [most, -most]),
                         [-2 * most * most - most, -most, most])

    def test_numbers_grow_without_end(self):
        big = 10 ** 29
        program = [([make("a", "f", "a")], [0, 1]), ([tell("a")], [])]
        self.assertEqual(self.told(program, {"a": 3}, {"f": (big, 0, 0)}, [0] * 199 + [-1]), [3 * big ** 200])

    def test_the_utmost_road_through_the_utmost_program(self):
        rows = [[make(word(40 * n + at), word(40 * n + at), word(40 * n + at)) for at in range(39)] for n in range(60)]
        program = [(rows[n] + [tell(word(40 * n))], [(n + 1) % 60] * 9) for n in range(60)]
        works = {word(number): (1, 0, 1) for number in range(2400)}
        self.assertEqual(told(program, {}, works, [8, -1] * 100), [1] * 60 + [2] * 60 + [3] * 60 + [4] * 21)

    def test_it_is_the_rows_of_its_blocks_done_one_by_one(self):
        chance = random.Random(6)
        for _ in range(200):
            program, start, works, road = any_run(chance)
            slots, numbers = start, []
            for block in blocks_on(program, road):
                for row in program[block][0]:
                    if row[0] == "tell":
                        numbers.append(slots.get(row[1], 0))
                    slots = done(slots, works, row)
            self.assertEqual(told(program, start, works, road), numbers)


def any_run(chance):
    """Some program, start, works and road."""
    program = any_program(chance)
    start = {slot: chance.randint(-9, 9) for slot in "abc" if chance.random() < 0.6}
    works = any_works(chance, program, 0.6)
    return program, start, works, [chance.randint(-5, 5) for _ in range(chance.randint(0, 8))]


if __name__ == "__main__":
    unittest.main()
