"""Points 1, 8 to 12: the rows that stand, and the cut (cuts.py)."""

import random
import unittest

from slotfitter.cuts import cut, kept
from slotfitter.programs import checked, reached, without
from slotfitter.runs import told
from tests.samples import all_roads, any_program, any_works, check_new, fed, loops, make, places_of, tell


def tells_the_same(program, other, runs):
    return all(told(program, *run) == told(other, *run) for run in runs)


def runs_of(chance, program, long):
    """Runs by all roads of at most so many numbers, each with a start and works of its own."""
    roads = list(all_roads(program, long))
    starts = [{slot: chance.randint(-10 ** 9, 10 ** 9) for slot in "abc"} for _ in roads]
    return [(start, any_works(chance, program), road) for start, road in zip(starts, roads)]


class KeptTest(unittest.TestCase):
    def kept(self, *program):
        return check_new(self, kept, list(program))

    def test_one_block_without_rows(self):
        self.assertEqual(self.kept(([], [])), [])
        self.assertEqual(self.kept(([], [0, 0])), [])

    def test_a_tell_row_stands_where_its_block_is_reached(self):
        self.assertEqual(self.kept(([tell("a"), tell("a")], [])), [(0, 0), (0, 1)])
        self.assertEqual(self.kept(([tell("a")], [2]), ([tell("a")], [0]), ([tell("b")], [])), [(0, 0), (2, 0)])

    def test_a_make_row_stands_where_its_slot_is_needed_behind_it(self):
        rows = [make("a", "f"), make("a", "g"), make("b", "h", "a"), make("c", "k", "a"), tell("b"), make("b", "m")]
        self.assertEqual(self.kept((rows, [])), [(0, 1), (0, 2), (0, 4)])

    def test_a_row_in_a_block_that_is_not_reached_does_not_stand(self):
        self.assertEqual(self.kept(([tell("a")], []), ([make("a", "f")], [0])), [(0, 0)])
        self.assertEqual(self.kept(([], []), ([make("a", "f"), tell("a")], [1])), [])

    def test_a_row_whose_slot_is_told_only_in_a_block_that_is_not_reached(self):
        self.assertEqual(self.kept(([make("a", "f")], []), ([tell("a")], [0])), [])

    def test_a_row_whose_slot_is_told_behind_a_way(self):
        self.assertEqual(self.kept(([make("a", "f"), make("b", "g")], [1, 1]), ([make("b", "h"), tell("a")], [])),
                         [(0, 0), (1, 1)])

    def test_a_row_that_only_feeds_itself_round_a_loop(self):
        self.assertEqual(self.kept(([make("a", "f", "a"), tell("b")], [0])), [(0, 1)])
        self.assertEqual(self.kept(([make("a", "f", "b")], [1]), ([make("b", "g", "a")], [0])), [])
        self.assertEqual(check_new(self, kept, fed()), [(0, 0), (0, 1), (0, 2), (0, 3)])

    def test_a_row_that_feeds_itself_and_is_told(self):
        self.assertEqual(self.kept(([make("a", "f", "a")], [0, 1]), ([tell("a")], [])), [(0, 0), (1, 0)])

    def test_a_row_that_is_told_round_a_loop(self):
        self.assertEqual(self.kept(([tell("a"), make("a", "f")], [0])), [(0, 0), (0, 1)])
        self.assertEqual(self.kept(([tell("a"), make("a", "f")], [])), [(0, 0)])

    def test_places_rise_by_block_then_by_row(self):
        self.assertEqual(check_new(self, kept, loops()),
                         [(0, 0), (0, 1), (1, 0), (1, 2), (2, 0), (2, 1), (2, 2)])

    def test_slots_called_tell_to_and_block(self):
        rows = [make("tell", "f"), make("to", "g", "tell"), make("block", "h", "to"), tell("to")]
        self.assertEqual(self.kept((rows, [])), [(0, 0), (0, 1), (0, 3)])

    def test_a_row_stands_just_where_without_it_some_run_tells_otherwise(self):
        chance = random.Random(10)
        for _ in range(50):
            program = any_program(chance, blocks=2, ways=2)
            runs = runs_of(chance, program, 7)
            stands = [place for place in places_of(program)
                      if not tells_the_same(program, without(program, [place]), runs)]
            self.assertEqual(kept(program), stands, program)

    def test_rows_can_be_left_out_together_just_where_none_of_them_stands(self):
        chance = random.Random(11)
        for _ in range(50):
            program = any_program(chance, blocks=2, rows=6, ways=2, tells=0.2)
            runs = runs_of(chance, program, 6)
            stands = kept(program)
            fallen = [place for place in places_of(program) if place not in stands]
            self.assertTrue(tells_the_same(program, without(program, fallen), runs), program)
            for place in stands:
                some = [other for other in places_of(program) if chance.random() < 0.4] + [place]
                self.assertFalse(tells_the_same(program, without(program, some), runs), (program, some))


class CutTest(unittest.TestCase):
    def cut(self, *program):
        return check_new(self, cut, list(program))

    def test_one_block_without_rows(self):
        self.assertEqual(self.cut(([], [])), [([], [])])

    def test_just_the_rows_that_stand_in_their_order(self):
        rows = [make("a", "f"), make("a", "g"), make("b", "h", "a"), make("c", "k", "a"), tell("b"), make("b", "m")]
        self.assertEqual(self.cut((rows, [])), [([rows[1], rows[2], rows[4]], [])])
        self.assertEqual(check_new(self, cut, fed()), [(fed()[0][0][:4], [0])])

    def test_the_same_blocks_and_ways(self):
        whole = loops()
        self.assertEqual(check_new(self, cut, loops()), [
            whole[0], ([whole[1][0][0], whole[1][0][2]], [1, 0, 2]), whole[2], ([], [2, 3])])
        self.assertEqual(self.cut(([], [0, 0]), ([tell("a")], [1, 0, 1])), [([], [0, 0]), ([], [1, 0, 1])])

    def test_a_program_that_stands_whole_is_its_own_cut(self):
        program = [([make("a", "f"), tell("a")], [1, 1]), ([tell("b")], [0])]
        self.assertEqual(self.cut(*program), program)

    def test_it_tells_the_same_and_no_row_of_it_can_be_left_out(self):
        chance = random.Random(12)
        for _ in range(200):
            program = any_program(chance, blocks=5, rows=6, slots="abcd", tells=0.2)
            small = cut(program)
            self.assertEqual(checked(small), small)
            self.assertEqual([ways for _, ways in small], [ways for _, ways in program])
            self.assertEqual(reached(small), reached(program))
            self.assertEqual(kept(small), places_of(small), program)
            self.assertEqual(cut(small), small)
            fallen = [place for place in places_of(program) if place not in kept(program)]
            self.assertEqual(small, without(program, fallen))
            for _ in range(20):
                start = {slot: chance.randint(-9, 9) for slot in "abcd" if chance.random() < 0.7}
                works = any_works(chance, program, 0.7)
                road = [chance.randint(-9, 9) for _ in range(chance.randint(0, 12))]
                self.assertEqual(told(small, start, works, road), told(program, start, works, road), program)


if __name__ == "__main__":
    unittest.main()
