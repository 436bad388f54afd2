"""1.1: what is a plant."""

import unittest

from mainfires.kinds import is_plant
from tests.helper import DAYS, ONE, TWO, WIDE, as_lists, misshapen, part_at, places, put, strange_things

# The place of a number in TWO, its least and its most.
BOUNDS = (
    ((0, 0, 0), 1, 9),
    ((0, 0, 1), 1, 9),
    ((0, 1, 0), 1, 9),
    ((0, 1, 1), 1, 9),
    ((1, 0, 0), 1, 9),
    ((1, 0, 1), 0, 7),
    ((1, 0, 2), 1, 8),
    ((1, 1, 0), 1, 9),
    ((1, 1, 1), 0, 7),
    ((1, 1, 2), 1, 8),
    ((2, 0), 0, 6),
    ((2, 1), 6, 40),
    ((2, 2), 2, 12),
)


class Plants(unittest.TestCase):
    def assert_plant(self, thing):
        self.assertIs(is_plant(thing), True, thing)

    def assert_no_plant(self, thing):
        self.assertIs(is_plant(thing), False, thing)

    def test_plants(self):
        for plant in (ONE, TWO, WIDE):
            self.assert_plant(plant)

    def test_each_number_at_its_bounds(self):
        for path, least, most in BOUNDS:
            for number in range(least, most + 1):
                self.assert_plant(put(TWO, path, number))
            for number in (least - 1, most + 1, least - 100, most + 100, 10**31 - 1, -(10**31 - 1)):
                self.assert_no_plant(put(TWO, path, number))

    def test_every_number_has_its_bounds_told(self):
        numbers = [path for path in places(TWO) if isinstance(part_at(TWO, path), int)]
        self.assertEqual(sorted(numbers), sorted(path for path, least, most in BOUNDS))

    def test_mains(self):
        for low, high, start in ((0, 0, 0), (40, 40, 40), (0, 40, 0), (0, 40, 40), (3, 5, 4), (3, 4, 3), (3, 4, 4)):
            self.assert_plant(put(ONE, (2,), (low, high, start)))
        wrong = ((-1, 0, 0), (0, 41, 0), (0, 41, 41), (41, 41, 41), (-1, -1, -1), (4, 5, 3), (3, 4, 5), (5, 4, 5))
        for low, high, start in wrong + ((5, 3, 4), (0, 40, 41), (-1, 40, -1)):
            self.assert_no_plant(put(ONE, (2,), (low, high, start)))

    def test_truths_are_no_numbers(self):
        plant = (((1, 1),), ((1, 1, 1),), (0, 1, 1))
        self.assert_plant(plant)
        for path in places(plant):
            if isinstance(part_at(plant, path), int):
                self.assert_no_plant(put(plant, path, True))
                self.assert_no_plant(put(plant, path, False))

    def test_how_many_boilers(self):
        for many in range(8):
            plant = (((1, 9),) * many, (), (0, 1, 1))
            self.assertIs(is_plant(plant), 1 <= many <= 4)

    def test_how_many_engines(self):
        for many in range(8):
            plant = (((1, 9),), ((1, 0, 1),) * many, (0, 1, 1))
            self.assertIs(is_plant(plant), many <= 4)

    def test_a_wrong_boiler_or_engine_in_whichever_place(self):
        for row, many in ((0, 4), (1, 4)):
            for at in range(many):
                for wrong in (None, 1, "12", "123", (), (1,), (1, 2, 3, 4), (0, 0, 0), [1, 1, 1], [1, 1]):
                    self.assert_no_plant(put(WIDE, (row, at), wrong))

    def test_parts_left_out_or_too_many(self):
        for plant in (ONE, TWO, WIDE):
            rows = [path for path in places(plant) if isinstance(part_at(plant, path), tuple)]
            # How many boilers and engines there may be has tests of its own.
            for path in [()] + [path for path in rows if path not in ((0,), (1,))]:
                row = part_at(plant, path)
                for wrong in ((), row[:-1], row[1:], row + (1,), row + row, row + (None,)):
                    self.assert_no_plant(put(plant, path, wrong))

    def test_lists_in_the_place_of_tuples(self):
        for plant in (ONE, TWO, WIDE):
            self.assert_no_plant(as_lists(plant))
            self.assert_no_plant(list(plant))

    def test_misshapen_ones(self):
        for plant in (ONE, TWO, WIDE):
            for thing in misshapen(plant):
                self.assert_no_plant(thing)

    def test_things_of_all_sorts(self):
        for thing in strange_things():
            self.assert_no_plant(thing)

    def test_stories_and_firings_are_no_plants(self):
        for plant, story, firing in DAYS:
            self.assert_no_plant(story)
            self.assert_no_plant(firing)
            self.assert_no_plant((plant,))


if __name__ == "__main__":
    unittest.main()
