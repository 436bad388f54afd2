"""1.3: what is a firing, and the fullest one."""

import unittest

from mainfires.kinds import caps_of, full_firing, is_firing
from tests.helper import DAYS, ONE, ONE_STORY, TWO, TWO_STORY, WIDE, WIDE_STORY
from tests.helper import TWO_FIRING, as_lists, misshapen, part_at, places, put, strange_things


class Firings(unittest.TestCase):
    def assert_firing(self, plant, story, thing):
        self.assertIs(is_firing(plant, story, thing), True, thing)

    def assert_no_firing(self, plant, story, thing):
        self.assertIs(is_firing(plant, story, thing), False, thing)

    def test_firings(self):
        for plant, story, firing in DAYS:
            self.assert_firing(plant, story, firing)

    def test_a_firing_in_which_nothing_is_made(self):
        for plant, story, firing in DAYS:
            self.assert_firing(plant, story, ((0,) * len(plant[0]),) * len(story[0]))

    def test_each_number_at_its_bounds(self):
        # What each boiler of TWO can make in each hour of TWO_STORY.
        for hour, row in enumerate(((6, 3), (3, 3), (3, 0), (6, 0))):
            for boiler, most in enumerate(row):
                for number in range(-2, 12):
                    thing = put(TWO_FIRING, (hour, boiler), number)
                    self.assertIs(is_firing(TWO, TWO_STORY, thing), 0 <= number <= most)

    def test_far_beyond_the_bounds(self):
        for path in places(TWO_FIRING):
            if len(path) == 2:
                for number in (10**31 - 1, -(10**31 - 1)):
                    self.assert_no_firing(TWO, TWO_STORY, put(TWO_FIRING, path, number))

    def test_a_row_for_each_hour(self):
        for many in range(8):
            self.assertIs(is_firing(ONE, ONE_STORY, ((0,),) * many), many == 3)

    def test_a_number_for_each_boiler(self):
        for hour in range(4):
            for many in range(5):
                thing = put(TWO_FIRING, (hour,), (0,) * many)
                self.assertIs(is_firing(TWO, TWO_STORY, thing), many == 2)

    def test_truths_are_no_numbers(self):
        firing = ((1,), (0,), (1,))
        self.assert_firing(ONE, ONE_STORY, firing)
        for hour in range(3):
            for truth in (True, False):
                self.assert_no_firing(ONE, ONE_STORY, put(firing, (hour, 0), truth))

    def test_lists_in_the_place_of_tuples(self):
        for plant, story, firing in DAYS:
            self.assert_no_firing(plant, story, as_lists(firing))
            self.assert_no_firing(plant, story, list(firing))
            self.assert_no_firing(plant, story, put(firing, (len(firing) - 1,), list(firing[-1])))

    def test_parts_left_out_or_too_many(self):
        for plant, story, firing in DAYS:
            for path in [()] + [path for path in places(firing) if len(path) == 1]:
                row = part_at(firing, path)
                for wrong in ((), row[:-1], row[1:], row + row[:1], row + (0,), row + row, row + (None,)):
                    self.assert_no_firing(plant, story, put(firing, path, wrong))

    def test_misshapen_ones(self):
        for plant, story, firing in DAYS:
            for thing in misshapen(firing):
                self.assert_no_firing(plant, story, thing)

    def test_things_of_all_sorts(self):
        for plant, story, firing in DAYS:
            for thing in strange_things() + [plant, story, (firing,)]:
                self.assert_no_firing(plant, story, thing)

    def test_a_firing_is_one_of_its_story(self):
        self.assert_no_firing(TWO, TWO_STORY, ((6, 3), (6, 3), (6, 3), (6, 3)))
        self.assert_firing(TWO, (TWO_STORY[0], ()), ((6, 3), (6, 3), (6, 3), (6, 3)))


class FullFirings(unittest.TestCase):
    def test_each_boiler_makes_all_it_can(self):
        self.assertEqual(full_firing(ONE, ONE_STORY), ((5,), (5,), (5,)))
        self.assertEqual(full_firing(TWO, TWO_STORY), ((6, 3), (3, 3), (3, 0), (6, 0)))

    def test_it_is_a_firing_and_none_makes_more(self):
        for plant, story, firing in DAYS:
            full = full_firing(plant, story)
            self.assertEqual(full, caps_of(plant, story))
            self.assertIs(is_firing(plant, story, full), True)
            for path in places(full):
                if len(path) == 2:
                    self.assertIs(is_firing(plant, story, put(full, path, part_at(full, path) + 1)), False)

    def test_it_is_tuples(self):
        told = full_firing(WIDE, WIDE_STORY)
        self.assertIsInstance(told, tuple)
        for row in told:
            self.assertIsInstance(row, tuple)


if __name__ == "__main__":
    unittest.main()
