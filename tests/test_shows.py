"""Points 1, 6, 8, 9 and 11 to 13: roads that show something (shows.py)."""

import copy
import os
import pathlib
import random
import subprocess
import sys
import unittest

from slotfitter.cuts import kept
from slotfitter.errors import FitError, NoPlace
from slotfitter.needs import needed
from slotfitter.programs import reached, without
from slotfitter.runs import blocks_on, told
from slotfitter.shows import flow, parting, road_to
from tests.samples import all_roads, any_program, check_new, fed, loops, make, places_of, tell

TOP = pathlib.Path(__file__).resolve().parent.parent


def begun_at(program, block):
    """The program with that block and block 0 in each other's place."""
    other = {0: block, block: 0}
    turned = [program[other.get(number, number)] for number in range(len(program))]
    return [(list(rows), [other.get(way, way) for way in ways]) for rows, ways in turned]


def check_road(test, program, road):
    """Each number of the road is taken, and is one from 0 to below the number of ways there."""
    test.assertIs(type(road), list)
    blocks = blocks_on(program, road)
    test.assertEqual(len(blocks), len(road) + 1)
    for block, number in zip(blocks, road):
        test.assertIs(type(number), int)
        test.assertIn(number, range(len(program[block][1])))


def tells_above_nought(program, block, slot, road):
    return any(number > 0 for number in told(begun_at(program, block), {slot: 1}, {}, road))


class RoadToTest(unittest.TestCase):
    def road_to(self, program, block):
        road = check_new(self, road_to, program, block)
        if road is not None:
            check_road(self, program, road)
            self.assertEqual(blocks_on(program, road)[-1], block)
        return road

    def test_to_block_0_it_is_empty(self):
        self.assertEqual(self.road_to([([], [])], 0), [])
        self.assertEqual(self.road_to([([], [0])], 0), [])
        self.assertEqual(self.road_to([([], [1]), ([], [0])], 0), [])

    def test_none_where_the_block_is_not_reached(self):
        self.assertIsNone(self.road_to([([], []), ([], [0])], 1))
        self.assertIsNone(self.road_to(loops(), 3))

    def test_none_where_no_block_has_the_number(self):
        for block in [4, 5, -1, -4, 10 ** 30, -10 ** 30]:
            self.assertIsNone(self.road_to(loops(), block))

    def test_the_number_of_the_way_is_its_place(self):
        program = [([], [0, 0, 2]), ([], []), ([], [0, 2, 2, 1])]
        self.assertEqual(self.road_to(program, 2), [2])
        self.assertEqual(self.road_to(program, 1), [2, 3])

    def test_as_short_as_can_be(self):
        self.assertEqual(self.road_to([([], [1, 2]), ([], [2]), ([], [3]), ([], [])], 3), [1, 0])
        self.assertEqual(self.road_to([([], [1, 3]), ([], [2]), ([], [3]), ([], [])], 3), [1])

    def test_ways_that_lead_to_the_same_block_several_times(self):
        self.assertIn(self.road_to([([], [1, 1, 1]), ([], [])], 1), [[0], [1], [2]])

    def test_rows_do_not_matter(self):
        self.assertEqual(self.road_to([([make("a", "f"), tell("a")], [1]), ([tell("b")], [])], 1), [0])

    def test_against_a_search_over_all_roads(self):
        chance = random.Random(13)
        for _ in range(150):
            program = any_program(chance, blocks=5)
            found = {}
            for road in all_roads(program, len(program)):
                blocks = blocks_on(program, road)
                if len(blocks) == len(road) + 1:
                    found.setdefault(blocks[-1], len(road))
            for block in range(len(program)):
                road = self.road_to(program, block)
                self.assertEqual(None if road is None else len(road), found.get(block), (program, block))
                self.assertEqual(road is not None, block in reached(program))


class FlowTest(unittest.TestCase):
    def flow(self, program, block, slot):
        road = check_new(self, flow, program, block, slot)
        if road is not None:
            check_road(self, begun_at(program, block), road)
            self.assertTrue(tells_above_nought(program, block, slot, road), (program, block, slot, road))
        return road

    def test_one_block_without_rows(self):
        self.assertIsNone(self.flow([([], [])], 0, "a"))
        self.assertIsNone(self.flow([([], [0])], 0, "a"))

    def test_it_is_empty_where_the_block_itself_tells(self):
        self.assertEqual(self.flow([([tell("a")], [0])], 0, "a"), [])
        self.assertEqual(self.flow([([make("b", "f", "a"), make("a", "g"), tell("b")], [0])], 0, "a"), [])

    def test_none_where_the_slot_is_made_anew_first(self):
        self.assertIsNone(self.flow([([make("a", "f"), tell("a")], [0])], 0, "a"))
        self.assertIsNone(self.flow([([make("a", "f", "b"), tell("a")], [0])], 0, "a"))
        self.assertIsNone(self.flow([([make("b", "f", "a"), make("b", "g", "c"), tell("b")], [0])], 0, "a"))

    def test_none_for_a_slot_that_stands_nowhere(self):
        for block in range(4):
            self.assertIsNone(self.flow(loops(), block, "zz"))

    def test_none_where_no_block_has_the_number(self):
        for block in [4, -1, 10 ** 30, -10 ** 30]:
            self.assertIsNone(self.flow(loops(), block, "a"))

    def test_none_for_what_only_feeds_itself(self):
        self.assertIsNone(self.flow([([make("a", "f", "a"), tell("b")], [0])], 0, "a"))
        self.assertIsNone(self.flow(fed(), 0, "n"))

    def test_a_second_read_and_twice_the_same_read(self):
        self.assertEqual(self.flow([([make("b", "f", "c", "a"), tell("b")], [])], 0, "a"), [])
        self.assertEqual(self.flow([([make("b", "f", "a", "a"), tell("b")], [])], 0, "a"), [])

    def test_round_a_loop_as_often_as_it_takes(self):
        self.assertEqual(self.flow(fed(), 0, "c"), [])
        self.assertEqual(self.flow(fed(), 0, "b"), [0])
        # What a held is in b at the end of the block, and in c once round, which is told the time after.
        self.assertEqual(self.flow(fed(), 0, "a"), [0, 0])

    def test_the_number_of_the_way_is_its_place(self):
        program = [([], [2, 2, 1]), ([tell("a")], []), ([], [2])]
        self.assertEqual(self.flow(program, 0, "a"), [2])

    def test_a_run_begins_at_a_block_that_is_not_reached(self):
        self.assertEqual(self.flow(loops(), 3, "a"), [])
        self.assertEqual(self.flow(loops(), 3, "b"), [0])
        self.assertEqual(self.flow([([], []), ([make("b", "f", "a")], [0, 2]), ([tell("b")], [])], 1, "a"), [1])

    def test_a_block_that_is_not_reached_tells_too(self):
        self.assertIsNone(self.flow([([], [0]), ([tell("a")], [])], 0, "a"))
        self.assertEqual(self.flow([([tell("b")], [0]), ([make("b", "f", "a")], [0])], 1, "a"), [0])

    def test_the_shorter_one_of_two_roads(self):
        end = [([], [4]), ([tell("b"), tell("c")], [])]
        program = [([make("b", "f", "a")], [1, 2]), ([], [3]), ([make("c", "g", "b")], [4]), *end]
        self.assertEqual(self.flow(program, 0, "a"), [1, 0])
        # Block 2 is the first way, but block 3 is one way further from there.
        program = [([], [2, 1]), ([make("a", "f", "a")], [3]), ([], [4, 4]), ([tell("a")], []), ([tell("b")], [3])]
        self.assertEqual(self.flow(program, 0, "a"), [1, 0])

    def test_slots_called_tell_to_and_block(self):
        program = [([make("tell", "f", "to")], [1]), ([make("block", "g", "tell"), tell("block")], [])]
        self.assertEqual(self.flow(program, 0, "to"), [0])
        self.assertIsNone(self.flow(program, 0, "tell"))

    def test_against_a_search_over_all_roads(self):
        chance = random.Random(14)
        for _ in range(80):
            program = any_program(chance, blocks=3, ways=2, slots="ab", tells=0.15)
            for block in range(len(program)):
                for slot in "abz":
                    lengths = [len(road) for road in all_roads(program, 6)
                               if tells_above_nought(program, block, slot, road)]
                    road = self.flow(program, block, slot)
                    self.assertEqual(None if road is None else len(road), min(lengths, default=None),
                                     (program, block, slot))

    def test_none_just_where_the_slot_is_not_needed(self):
        chance = random.Random(15)
        for _ in range(150):
            program = any_program(chance, blocks=6, rows=6, slots="abcdef", tells=0.1)
            needs = needed(program)
            for block in range(len(program)):
                for slot in "abcdef":
                    self.assertEqual(self.flow(program, block, slot) is None, slot not in needs[block],
                                     (program, block, slot))


class PartingTest(unittest.TestCase):
    def parting(self, program, places):
        """What it gives, seen to be what is promised of it."""
        answer = check_new(self, parting, program, places)
        stands = [place for place in places if place in kept(program)]
        if not stands:
            self.assertIsNone(answer)
            return None
        self.assertIs(type(answer), tuple)
        place, road = answer
        self.assertEqual(place, stands[0], (program, places))
        self.assertIs(type(place), tuple)
        check_road(self, program, road)
        row = program[place[0]][0][place[1]]
        works = {row[2]: (1, 1, 1)} if row[0] == "make" else {}
        rest = without(program, places)
        self.assertNotEqual(told(program, {}, works, road), told(rest, {}, works, road), (program, places))
        return answer

    def test_no_places(self):
        self.assertIsNone(self.parting([([], [])], []))
        self.assertIsNone(self.parting(loops(), []))

    def test_none_where_no_row_stands(self):
        self.assertIsNone(self.parting(loops(), [(1, 1)]))
        self.assertIsNone(self.parting(loops(), [(3, 0), (1, 1), (3, 0)]))
        self.assertIsNone(self.parting(fed(), [(0, 4)]))

    def test_a_tell_row(self):
        self.assertEqual(self.parting([([tell("a")], [])], [(0, 0)]), ((0, 0), []))
        self.assertEqual(self.parting([([], [0, 1]), ([tell("a")], [])], [(1, 0)]), ((1, 0), [1]))

    def test_a_make_row(self):
        self.assertEqual(self.parting([([make("a", "f"), tell("a")], [])], [(0, 0)]), ((0, 0), []))
        self.parting([([make("a", "f", "b")], [0, 1]), ([tell("a")], [])], [(0, 0)])
        self.parting([([make("a", "f", "b", "b")], [1]), ([make("c", "g", "d", "a"), tell("c")], [])], [(0, 0)])

    def test_each_row_of_a_loop(self):
        for at in range(4):
            self.assertEqual(self.parting(fed(), [(0, at)])[0], (0, at))

    def test_rows_ahead_in_the_block_of_a_row_do_not_hide_it(self):
        # Block 0 makes a anew ahead of its tell row, so only block 2 tells what the last row makes.
        program = [([make("a", "f"), tell("a"), make("a", "g", "a")], [0, 1]), ([], [2]), ([tell("a")], [0])]
        self.parting(program, [(0, 2)])

    def test_the_first_place_in_the_lists_order(self):
        places = [(1, 1), (2, 2), (0, 0), (1, 0)]
        self.assertEqual(self.parting(loops(), places)[0], (2, 2))
        self.assertEqual(self.parting(loops(), places[::-1])[0], (1, 0))
        self.assertEqual(self.parting(loops(), [(3, 0), (1, 0), (0, 0)])[0], (1, 0))

    def test_a_place_several_times(self):
        self.assertEqual(self.parting(loops(), [(1, 1), (0, 1), (1, 1), (0, 1)])[0], (0, 1))

    def test_the_other_rows_of_the_list_are_left_out_too(self):
        program = [([make("a", "f"), make("b", "g", "a"), tell("b")], [])]
        for places in [[(0, 0), (0, 1), (0, 2)], [(0, 1), (0, 0)], [(0, 2), (0, 0)], [(0, 0), (0, 2)]]:
            self.assertEqual(self.parting(program, places)[0], places[0])

    def test_ten_places_at_once(self):
        self.parting([([make("a", "f"), tell("a")], [0]), ([tell("a")], [])], [(1, 0)] * 8 + [(0, 1), (0, 0)])
        places = places_of(loops())
        for first in range(len(places)):
            self.parting(loops(), places[first:] + places[:first])

    def test_no_place(self):
        wrong = [(0, 2), (0, -1), (-1, 0), (4, 0), (3, 1), (5, 5), (0, 10 ** 30), (10 ** 30, 0), (-10 ** 30, 0),
                 (), (0,), (0, 0, 0), None, [0, 0], ("a", 0)]
        for place in wrong:
            for places in [[place], [(0, 0), place], [place, (0, 0)], [(1, 1), place, (1, 1)]]:
                self.assert_no_place(loops(), places)
        self.assert_no_place([([], [])], [(0, 0)])
        self.assert_no_place([([], []), ([tell("a")], [])], [(1, 0), (0, 0)])

    def assert_no_place(self, program, places):
        before = copy.deepcopy((program, places))
        with self.assertRaises(FitError) as caught:
            parting(program, places)
        self.assertIs(type(caught.exception), NoPlace)
        self.assertEqual((program, places), before)

    def test_programs_of_all_kinds(self):
        chance = random.Random(16)
        for _ in range(300):
            program = any_program(chance, blocks=6, rows=6, slots="abcdef", tells=0.1)
            places = places_of(program)
            for place in places:
                self.parting(program, [place])
            if places:
                self.parting(program, [chance.choice(places) for _ in range(chance.randint(1, 10))])


class SameRoadTest(unittest.TestCase):
    SCRIPT = """
import random
from slotfitter.shows import flow, parting, road_to
from tests.samples import any_program, places_of
chance = random.Random(17)
for _ in range(20):
    program = any_program(chance, blocks=6, ways=9, slots="abcdef", tells=0.1)
    print([road_to(program, block) for block in range(len(program))])
    print([flow(program, block, slot) for block in range(len(program)) for slot in "abcdef"])
    print([parting(program, [place]) for place in places_of(program)])
"""

    def test_it_does_not_hang_on_how_python_hashes_texts(self):
        given = set()
        for seed in ["0", "1", "2"]:
            told_all = subprocess.run([sys.executable, "-c", self.SCRIPT], cwd=TOP, capture_output=True, check=True,
                                      env={**os.environ, "PYTHONHASHSEED": seed, "PYTHONPATH": str(TOP)})
            given.add(told_all.stdout)
        self.assertEqual(len(given), 1)


if __name__ == "__main__":
    unittest.main()
