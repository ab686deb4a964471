"""Point 7: it stays quick for programs of the utmost size and the roads that they give."""

import time
import unittest

from slotfitter.cuts import cut, kept
from slotfitter.needs import ahead, needed
from slotfitter.programs import checked, reached, without
from slotfitter.runs import blocks_on, told
from slotfitter.shows import flow, parting, road_to
from slotfitter.texts import read, shown
from tests.samples import chain, make, places_of, tell, wide, word

# Each takes a second or two at most; what grows with the number of roads or of slots' sets takes hours.
SECONDS = 30


class SizesTest(unittest.TestCase):
    def quick(self, call, *given):
        begun = time.process_time()
        answer = call(*given)
        self.assertLess(time.process_time() - begun, SECONDS, call.__name__)
        return answer

    def check_all(self, program):
        """Ask everything of a program of which each row stands."""
        self.assertEqual(checked(program), program)
        self.assertEqual(self.quick(kept, program), places_of(program))
        self.assertEqual(self.quick(cut, program), program)
        self.assertEqual(self.quick(read, self.quick(shown, program)), program)
        needs = self.quick(needed, program)
        for block in [0, 1, 30, 59]:
            behind = sorted({slot for way in program[block][1] for slot in needs[way]})
            self.assertEqual(self.quick(ahead, program[block][0], behind), needs[block])
            self.assertEqual(blocks_on(program, self.quick(road_to, program, block))[-1], block)
        for places in [[(0, 0)], [(59, 38)], places_of(program)[-2:-12:-1]]:
            place, road = self.quick(parting, program, places)
            self.assertEqual(place, places[0])
            block, at = place
            row = program[block][0][at]
            works = {row[2]: (1, 1, 1)} if row[0] == "make" else {}
            self.assertNotEqual(self.quick(told, program, {}, works, road),
                                self.quick(told, without(program, places), {}, works, road))

    def test_a_chain_that_takes_the_whole_loop_for_each_slot(self):
        program = chain()
        self.check_all(program)
        road = self.quick(flow, program, 0, word(0))
        self.assertGreater(len(road), 130000)
        numbers = self.quick(told, program, {word(0): 1}, {}, road)
        self.assertEqual((numbers[-1], max(numbers[:-1])), (1, 0))

    def test_thousands_of_slots_that_are_needed_everywhere(self):
        self.check_all(wide())
        self.assertEqual([len(slots) for slots in needed(wide())], [2400] * 60)
        for block in range(60):
            road = self.quick(flow, wide(), block, word(5000))
            self.assertLessEqual(len(road), 7)

    def test_a_web_of_slots_of_which_none_is_told(self):
        program = []
        for block in range(60):
            rows = [make(word(at), word(40 * block + at), word(at), word((7 * at + block) % 40)) for at in range(40)]
            program.append((rows, [(block + way) % 60 for way in range(1, 10)]))
        self.assertEqual(self.quick(kept, program), [])
        self.assertEqual(self.quick(cut, program), [([], ways) for _, ways in program])
        self.assertIsNone(self.quick(parting, program, places_of(program)[:10]))
        for slot in range(40):
            self.assertIsNone(self.quick(flow, program, 0, word(slot)))
        program[59][0][0] = tell(word(0))
        self.assertEqual(self.quick(needed, program), [[word(at) for at in range(40)]] * 60)

    def test_loops_with_two_ways_each(self):
        program = [([make("a", word(block), "a", "b")], [(block + 1) % 60, (block + 2) % 60]) for block in range(60)]
        program[59] = ([tell("a")], [])
        self.assertEqual(len(self.quick(road_to, program, 59)), 30)
        self.assertEqual(len(self.quick(flow, program, 0, "b")), 30)
        self.assertEqual(self.quick(reached, program), list(range(60)))
        self.assertEqual(self.quick(kept, program), places_of(program))

    def test_roads_of_200_numbers(self):
        most = 10 ** 30 - 1
        rows = [make("a", word(at), "a", "a") for at in range(39)] + [tell("a")]
        program = [(rows, [0])]
        works = {word(at): (most, most, most) for at in range(39)}
        numbers = self.quick(told, program, {"a": most}, works, [most] * 200)
        self.assertEqual(len(numbers), 201)
        self.assertEqual(self.quick(told, self.quick(cut, program), {"a": most}, works, [most] * 200), numbers)


if __name__ == "__main__":
    unittest.main()
