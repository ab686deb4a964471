"""Points 1, 8 and 12: blocks that are reached, and places (programs.py)."""

import copy
import itertools
import random
import unittest

from slotfitter.errors import FitError, NoPlace
from slotfitter.programs import checked, reached, without
from slotfitter.runs import blocks_on
from tests.samples import check_new, loops, make, signed, tell


class WithoutTest(unittest.TestCase):
    def without(self, program, places):
        return check_new(self, without, program, places)

    def test_it_has_all_its_other_rows_in_order_and_the_same_ways(self):
        whole = loops()
        self.assertEqual(self.without(loops(), [(1, 1), (0, 0)]), [
            ([whole[0][0][1]], [1, 2]),
            ([whole[1][0][0], whole[1][0][2]], [1, 0, 2]),
            (whole[2][0], []),
            (whole[3][0], [2, 3]),
        ])

    def test_no_place_at_all(self):
        self.assertEqual(self.without(loops(), []), loops())
        self.assertEqual(self.without([([], [])], []), [([], [])])

    def test_every_place(self):
        whole = loops()
        places = [(block, at) for block, (rows, _) in enumerate(whole) for at in range(len(rows))]
        self.assertEqual(self.without(whole, places), [([], [1, 2]), ([], [1, 0, 2]), ([], []), ([], [2, 3])])

    def test_each_place_alone(self):
        for block, (rows, ways) in enumerate(loops()):
            for at in range(len(rows)):
                left = loops()
                del left[block][0][at]
                self.assertEqual(self.without(loops(), [(block, at)]), left)

    def test_the_order_of_the_places_does_not_matter(self):
        places = [(0, 1), (1, 0), (1, 2), (2, 1)]
        rest = without(loops(), places)
        self.assertEqual(sum(len(rows) for rows, _ in rest), 5)
        for order in itertools.permutations(places):
            self.assertEqual(self.without(loops(), list(order)), rest)

    def test_a_place_several_times(self):
        self.assertEqual(self.without(loops(), [(1, 0), (0, 1), (1, 0), (1, 0)]), without(loops(), [(0, 1), (1, 0)]))

    def test_rows_that_are_alike(self):
        self.assertEqual(self.without([([tell("a"), tell("a"), tell("b")], [0])], [(0, 0)]),
                         [([tell("a"), tell("b")], [0])])

    def test_the_last_places_of_a_program_of_the_utmost_size(self):
        program = [(signed(40, 40 * n), [n] * 9) for n in range(60)]
        rest = without(program, [(59, 39), (0, 0)])
        self.assertEqual(rest[59], (signed(39, 40 * 59), [59] * 9))
        self.assertEqual(rest[0], (signed(39, 1), [0] * 9))
        self.assertEqual(rest[1:59], program[1:59])
        places = [(block, at) for block in range(60) for at in range(40)]
        self.assertEqual(without(program, places * 3), [([], [n] * 9) for n in range(60)])

    def test_the_rest_is_fine_again(self):
        rest = without(loops(), [(1, 1)])
        self.assertEqual(checked(rest), rest)

    def test_places_at_which_no_row_stands(self):
        wrong = [(0, 2), (0, -1), (0, -2), (-1, 0), (-4, 0), (4, 0), (3, 1), (1, 3), (5, 5), (-1, -1),
                 (0, 10 ** 30), (10 ** 30, 0), (-10 ** 30, -10 ** 30), (0, 10 ** 5000)]
        for place in wrong:
            for places in [[place], [(0, 0), place], [place, (0, 0)], [(1, 1), place, (1, 1)]]:
                self.assert_no_place(loops(), places)

    def test_no_place_in_a_block_without_rows(self):
        self.assert_no_place([([], [])], [(0, 0)])
        self.assert_no_place([([], []), ([tell("a")], [])], [(0, 0)])

    def test_things_that_are_no_pair_of_numbers(self):
        for place in [(), (0,), (0, 0, 0), [0, 0], 0, None, "ab", ("a", 0), (0, None), ((0, 0), 0)]:
            self.assert_no_place(loops(), [place])

    def assert_no_place(self, program, places):
        before = copy.deepcopy((program, places))
        with self.assertRaises(FitError) as caught:
            without(program, places)
        self.assertIs(type(caught.exception), NoPlace)
        self.assertIsInstance(caught.exception, ValueError)
        self.assertEqual((program, places), before)


class ReachedTest(unittest.TestCase):
    def reached(self, *ways):
        return check_new(self, reached, [([tell("a")], list(row)) for row in ways])

    def test_block_0_is_reached(self):
        self.assertEqual(self.reached([]), [0])
        self.assertEqual(self.reached([0]), [0])
        self.assertEqual(self.reached([], [0], [1, 2]), [0])

    def test_blocks_behind_blocks_rising(self):
        self.assertEqual(self.reached([3], [], [1], [2]), [0, 1, 2, 3])
        self.assertEqual(self.reached([4, 2], [0], [], [1], [0]), [0, 2, 4])

    def test_loops(self):
        self.assertEqual(self.reached([1], [2], [0], [0, 3]), [0, 1, 2])
        self.assertEqual(self.reached([0, 0, 0, 1, 1], [1, 0]), [0, 1])

    def test_a_block_that_leads_to_reached_ones_is_not_reached_by_that(self):
        self.assertEqual(self.reached([2], [0, 2, 1], []), [0, 2])
        self.assertEqual(check_new(self, reached, loops()), [0, 1, 2])

    def test_a_way_at_each_of_the_nine_places(self):
        self.assertEqual(self.reached([1, 2, 3, 4, 5, 6, 7, 8, 9], *[[] for _ in range(9)]), list(range(10)))

    def test_a_chain_of_60_blocks(self):
        self.assertEqual(self.reached(*[[n - 1] for n in [60] + list(range(1, 60))]), list(range(60)))
        self.assertEqual(self.reached(*[[min(n + 1, 59)] for n in range(60)]), list(range(60)))

    def test_rows_do_not_matter(self):
        self.assertEqual(check_new(self, reached, [([], [1]), ([make("a", "f")], []), ([], [])]), [0, 1])

    def test_just_the_blocks_to_which_some_road_leads(self):
        chance = random.Random(8)
        for _ in range(150):
            many = chance.randint(1, 5)
            program = [([], [chance.randrange(many) for _ in range(chance.randint(0, 2))]) for _ in range(many)]
            met = set()
            for road in itertools.product([0, 1], repeat=many):
                met.update(blocks_on(program, list(road)))
            self.assertEqual(reached(program), sorted(met), program)


if __name__ == "__main__":
    unittest.main()
