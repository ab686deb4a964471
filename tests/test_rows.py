"""Points 1, 2, 5 and 7: names, and what a row does (rows.py)."""

import unittest

from slotfitter.rows import done, is_name
from tests.samples import check_new, make, tell


class IsNameTest(unittest.TestCase):
    def test_texts_of_1_to_12_small_letters(self):
        for text in ["a", "z", "m", "ab", "make", "tell", "to", "block",
                     "abcdefghijkl", "mnopqrstuvwx", "zzzzzzzzzzzz", "abcdefghijk"]:
            self.assertIs(is_name(text), True, text)

    def test_every_small_letter(self):
        for letter in "abcdefghijklmnopqrstuvwxyz":
            self.assertIs(is_name(letter), True, letter)
            self.assertIs(is_name("a" + letter + "a"), True, letter)

    def test_texts_that_are_too_short_or_too_long(self):
        for text in ["", "abcdefghijklm", "z" * 13, "a" * 1000]:
            self.assertIs(is_name(text), False, text)

    def test_every_other_sign_from_the_blank_to_the_tilde(self):
        for code in range(ord(" "), ord("~") + 1):
            sign = chr(code)
            if "a" <= sign <= "z":
                continue
            for text in [sign, sign + "a", "a" + sign, "a" + sign + "a", "abcdefghijk" + sign]:
                self.assertIs(is_name(text), False, text)

    def test_things_that_are_no_text(self):
        for thing in [None, True, False, 0, 1, -1, 10 ** 5000, 1.5, b"a", b"", [], ["a"], (), ("a",),
                      {}, {"a": 1}, {"a"}, object(), str, is_name, iter("a"), range(3)]:
            self.assertIs(is_name(thing), False, repr(type(thing)))

    def test_a_thing_is_not_changed(self):
        thing = ["a", "b"]
        self.assertIs(is_name(thing), False)
        self.assertEqual(thing, ["a", "b"])


class DoneTest(unittest.TestCase):
    def done(self, slots, works, row):
        return check_new(self, done, slots, works, row)

    def test_without_a_read_it_is_r(self):
        row = make("x", "f")
        self.assertEqual(self.done({"x": 9}, {"f": (2, 3, 5)}, row), {"x": 5})
        self.assertEqual(self.done({}, {"f": (2, 3, -5)}, row), {"x": -5})

    def test_with_one_read_it_is_p_times_it_and_r(self):
        row = make("x", "f", "a")
        self.assertEqual(self.done({"a": 7, "x": 9}, {"f": (2, 3, 5)}, row), {"a": 7, "x": 19})
        self.assertEqual(self.done({"a": 7}, {"f": (-2, 3, 5)}, row), {"a": 7, "x": -9})

    def test_with_two_reads_it_is_p_times_the_first_q_times_the_second_and_r(self):
        row = make("x", "f", "a", "b")
        self.assertEqual(self.done({"a": 7, "b": 11}, {"f": (2, 3, 5)}, row),
                         {"a": 7, "b": 11, "x": 52})
        self.assertEqual(self.done({"a": 7, "b": 11}, {"f": (0, 1, 0)}, row),
                         {"a": 7, "b": 11, "x": 11})

    def test_without_works_a_sign_works_1_1_0(self):
        slots = {"a": 7, "b": 11}
        self.assertEqual(self.done(dict(slots), {}, make("x", "f")), {"a": 7, "b": 11, "x": 0})
        self.assertEqual(self.done(dict(slots), {}, make("x", "f", "a")), {"a": 7, "b": 11, "x": 7})
        self.assertEqual(self.done(dict(slots), {}, make("x", "f", "a", "b")), {"a": 7, "b": 11, "x": 18})

    def test_works_of_other_signs_do_not_count(self):
        works = {"x": (2, 3, 5), "a": (2, 3, 5), "g": (2, 3, 5)}
        self.assertEqual(self.done({"a": 7}, works, make("x", "f", "a")), {"a": 7, "x": 7})

    def test_a_slot_that_is_not_there_holds_0(self):
        works = {"f": (2, 3, 5)}
        self.assertEqual(self.done({}, works, make("x", "f", "a")), {"x": 5})
        self.assertEqual(self.done({"b": 4}, works, make("x", "f", "a", "b")), {"b": 4, "x": 17})
        self.assertEqual(self.done({"a": 4}, works, make("x", "f", "a", "b")), {"a": 4, "x": 13})

    def test_a_row_that_reads_the_slot_it_makes(self):
        works = {"f": (2, 3, 5)}
        self.assertEqual(self.done({"x": 4}, works, make("x", "f", "x")), {"x": 13})
        self.assertEqual(self.done({"x": 4, "a": 1}, works, make("x", "f", "a", "x")), {"x": 19, "a": 1})
        self.assertEqual(self.done({}, works, make("x", "f", "x")), {"x": 5})

    def test_twice_the_same_read(self):
        works = {"f": (2, 3, 5)}
        self.assertEqual(self.done({"a": 4}, works, make("x", "f", "a", "a")), {"a": 4, "x": 25})
        self.assertEqual(self.done({"x": 4}, works, make("x", "f", "x", "x")), {"x": 25})

    def test_slots_and_signs_of_one_name_are_apart(self):
        self.assertEqual(self.done({"f": 4}, {"f": (2, 0, 1)}, make("f", "f", "f")), {"f": 9})

    def test_behind_a_tell_row_as_ahead_of_it(self):
        self.assertEqual(self.done({"a": 7, "b": 0}, {"a": (2, 3, 5)}, tell("a")), {"a": 7, "b": 0})
        self.assertEqual(self.done({"a": 7}, {}, tell("x")), {"a": 7})
        self.assertEqual(self.done({}, {}, tell("x")), {})

    def test_the_dict_is_new_behind_a_tell_row_too(self):
        slots = {"a": 7}
        self.assertIsNot(done(slots, {}, tell("a")), slots)
        self.assertIsNot(done(slots, {}, make("a", "f", "a")), slots)

    def test_numbers_of_30_figures(self):
        most = 10 ** 30 - 1
        works = {"f": (most, -most, most)}
        self.assertEqual(self.done({"a": most, "b": -most}, works, make("x", "f", "a", "b"))["x"],
                         2 * most * most + most)
        self.assertEqual(self.done({"a": -most}, works, make("x", "f", "a"))["x"], most - most * most)


if __name__ == "__main__":
    unittest.main()
