"""1.2: what is a story, what each boiler can make in it, and what is drawn."""

import unittest

from mainfires.kinds import caps_of, draws_of, is_story
from tests.helper import DAYS, ONE, ONE_STORY, TWO, TWO_STORY, WIDE, WIDE_STORY
from tests.helper import as_lists, misshapen, part_at, places, put, strange_things


def plant_with(boilers=((5, 2),), engines=()):
    return (boilers, engines, (0, 10, 5))


def story_of(hours, *faults):
    return ((0,) * hours, faults)


class Stories(unittest.TestCase):
    def assert_story(self, plant, thing):
        self.assertIs(is_story(plant, thing), True, thing)

    def assert_no_story(self, plant, thing):
        self.assertIs(is_story(plant, thing), False, thing)

    def test_stories(self):
        for plant, story, firing in DAYS:
            self.assert_story(plant, story)

    def test_how_many_hours(self):
        for many in range(12):
            self.assertIs(is_story(ONE, ((0,) * many, ())), 1 <= many <= 8)

    def test_each_extra_at_its_bounds(self):
        for at in range(4):
            for number in range(-3, 25):
                self.assertIs(is_story(TWO, put(TWO_STORY, (0, at), number)), 0 <= number <= 20)
            for number in (10**31 - 1, -(10**31 - 1)):
                self.assert_no_story(TWO, put(TWO_STORY, (0, at), number))

    def test_how_many_faults(self):
        for many in range(8):
            self.assertIs(is_story(ONE, story_of(2, *(((0, "out", 0, 1),) * many))), many <= 4)

    def test_a_fault_has_a_boiler_of_the_plant(self):
        for many in range(1, 5):
            plant = plant_with(boilers=((5, 2),) * many)
            for boiler in range(-2, 7):
                self.assertIs(is_story(plant, story_of(2, (boiler, "out", 0, 1))), 0 <= boiler < many)

    def test_a_fault_has_one_of_two_words(self):
        for word in ("out", "scaled"):
            self.assert_story(ONE, story_of(2, (0, word, 0, 1)))
        for word in ("", "Out", "OUT", "out ", " out", "scale", "outscaled", "o", 0, None, True, ("out",), ["out"], {}):
            self.assert_no_story(ONE, story_of(2, (0, word, 0, 1)))

    def test_a_fault_has_two_hours_of_the_story(self):
        for hours in range(1, 9):
            for first in range(-2, 11):
                for last in range(-2, 11):
                    fits = 0 <= first <= last < hours
                    self.assertIs(is_story(ONE, story_of(hours, (0, "scaled", first, last))), fits)

    def test_each_fault_is_looked_at(self):
        for at in range(4):
            for wrong in ((1, "out", 9, 9), (4, "out", 0, 0), (0, "in", 0, 0), (0, "out", 1, 0), (0, "out", 0), ()):
                self.assert_no_story(WIDE, put(WIDE_STORY, (1, at), wrong))

    def test_truths_are_no_numbers(self):
        plant, story = plant_with(boilers=((5, 2),) * 2), ((1, 1), ((1, "out", 1, 1), (0, "out", 0, 0)))
        self.assert_story(plant, story)
        for path in places(story):
            if isinstance(part_at(story, path), int):
                self.assert_no_story(plant, put(story, path, bool(part_at(story, path))))

    def test_parts_left_out_or_too_many(self):
        for path in ((), (1, 0), (1, 1)):
            row = part_at(TWO_STORY, path)
            for wrong in ((), row[:-1], row[1:], row + (1,), row + row, row + (None,)):
                self.assert_no_story(TWO, put(TWO_STORY, path, wrong))
        for path in ((0,), (1,)):
            self.assert_no_story(TWO, put(TWO_STORY, path, part_at(TWO_STORY, path) + (None,)))

    def test_lists_in_the_place_of_tuples(self):
        for plant, story, firing in DAYS:
            self.assert_no_story(plant, as_lists(story))
            self.assert_no_story(plant, list(story))
            self.assert_no_story(plant, (list(story[0]), story[1]))
            self.assert_no_story(plant, (story[0], list(story[1])))

    def test_misshapen_ones(self):
        for plant, story, firing in DAYS:
            for thing in misshapen(story):
                self.assert_no_story(plant, thing)

    def test_things_of_all_sorts(self):
        for plant, story, firing in DAYS:
            for thing in strange_things() + [plant, firing, (story,)]:
                self.assert_no_story(plant, thing)

    def test_a_story_is_one_of_its_plant(self):
        self.assert_no_story(ONE, TWO_STORY)
        self.assert_story(TWO, ONE_STORY)


class Caps(unittest.TestCase):
    def assert_caps(self, boilers, story, caps):
        told = caps_of(plant_with(boilers=boilers), story)
        self.assertEqual(told, caps)
        self.assertIsInstance(told, tuple)
        for row in told:
            self.assertIsInstance(row, tuple)
            for number in row:
                self.assertIs(type(number), int)

    def test_neither(self):
        self.assert_caps(((5, 2), (9, 1)), story_of(3), ((5, 9), (5, 9), (5, 9)))

    def test_out(self):
        self.assert_caps(((5, 2), (9, 1)), story_of(4, (0, "out", 1, 2)), ((5, 9), (0, 9), (0, 9), (5, 9)))

    def test_out_for_one_hour(self):
        self.assert_caps(((5, 2), (9, 1)), story_of(2, (1, "out", 1, 1)), ((5, 9), (5, 0)))

    def test_scaled_leaves_half_without_what_is_below_a_unit(self):
        for make in range(1, 10):
            half = (0, 0, 1, 1, 2, 2, 3, 3, 4, 4)[make]
            self.assert_caps(((make, 1),), story_of(3, (0, "scaled", 1, 1)), ((make,), (half,), (make,)))

    def test_scaled_twice_is_scaled(self):
        faults = ((0, "scaled", 0, 1), (0, "scaled", 1, 2))
        self.assert_caps(((8, 1),), story_of(4, *faults), ((4,), (4,), (4,), (8,)))

    def test_out_over_scaled_in_either_order(self):
        scaled, out = (0, "scaled", 0, 2), (0, "out", 1, 3)
        for faults in ((scaled, out), (out, scaled)):
            self.assert_caps(((9, 1),), story_of(5, *faults), ((4,), (0,), (0,), (0,), (9,)))

    def test_a_short_one_within_a_long_one(self):
        faults = ((0, "scaled", 0, 3), (0, "out", 2, 2))
        self.assert_caps(((9, 1),), story_of(4, *faults), ((4,), (4,), (0,), (4,)))
        faults = ((0, "out", 0, 3), (0, "scaled", 2, 2))
        self.assert_caps(((9, 1),), story_of(4, *faults), ((0,), (0,), (0,), (0,)))

    def test_each_boiler_by_its_own_faults(self):
        faults = ((1, "scaled", 0, 0), (0, "out", 0, 0), (3, "out", 1, 1), (2, "scaled", 1, 1))
        self.assert_caps(((9, 1), (7, 1), (5, 1), (3, 1)), story_of(2, *faults), ((0, 3, 5, 3), (9, 7, 2, 0)))

    def test_of_a_wide_plant(self):
        rows = ((0, 0, 5, 8),) * 4 + ((4, 0, 5, 8),) * 2 + ((9, 0, 5, 8), (9, 0, 5, 4))
        self.assertEqual(caps_of(WIDE, WIDE_STORY), rows)

    def test_neither_coal_nor_extra_nor_engines_matter(self):
        plant = plant_with(boilers=((5, 9),), engines=((9, 0, 1),))
        self.assertEqual(caps_of(plant, ((20, 0), ())), ((5,), (5,)))


class Draws(unittest.TestCase):
    def assert_draws(self, engines, extra, draws):
        told = draws_of(plant_with(engines=engines), (extra, ()))
        self.assertEqual(told, draws)
        self.assertIsInstance(told, tuple)

    def test_no_engines(self):
        self.assert_draws((), (3, 0, 20), (3, 0, 20))

    def test_an_engine_that_draws_every_hour(self):
        self.assert_draws(((4, 0, 1),), (0,) * 8, (4,) * 8)

    def test_an_engine_that_draws_every_hour_from_a_later_one(self):
        self.assert_draws(((4, 3, 1),), (0,) * 6, (0, 0, 0, 4, 4, 4))

    def test_an_engine_that_draws_once(self):
        self.assert_draws(((4, 0, 8),), (0,) * 8, (4, 0, 0, 0, 0, 0, 0, 0))
        self.assert_draws(((4, 7, 1),), (0,) * 8, (0, 0, 0, 0, 0, 0, 0, 4))
        self.assert_draws(((4, 2, 6),), (0,) * 8, (0, 0, 4, 0, 0, 0, 0, 0))

    def test_an_engine_that_begins_behind_the_last_hour(self):
        self.assert_draws(((4, 3, 1),), (1, 2, 3), (1, 2, 3))
        self.assert_draws(((4, 7, 1),), (1, 2, 3), (1, 2, 3))
        self.assert_draws(((4, 7, 7),), (1, 2, 3), (1, 2, 3))

    def test_an_engine_draws_nothing_ahead_of_its_first_hour(self):
        self.assert_draws(((9, 4, 2),), (0,) * 8, (0, 0, 0, 0, 9, 0, 9, 0))
        self.assert_draws(((9, 5, 3),), (0,) * 8, (0, 0, 0, 0, 0, 9, 0, 0))

    def test_each_first_and_each_every(self):
        for first in range(8):
            for every in range(1, 9):
                draws = [0] * 8
                hour = first
                while hour < 8:
                    draws[hour] = 3
                    hour += every
                self.assert_draws(((3, first, every),), (0,) * 8, tuple(draws))

    def test_several_engines_and_extra_are_added(self):
        self.assert_draws(((4, 0, 2), (2, 1, 3), (9, 0, 1), (1, 4, 1)), (1, 0, 3, 2, 20), (14, 11, 16, 11, 36))

    def test_two_engines_alike_both_draw(self):
        self.assert_draws(((4, 1, 2), (4, 1, 2)), (1, 1, 1, 1), (1, 9, 1, 9))

    def test_faults_matter_nothing(self):
        self.assertEqual(draws_of(TWO, TWO_STORY), (5, 2, 7, 2))
        self.assertEqual(draws_of(TWO, (TWO_STORY[0], ())), (5, 2, 7, 2))


if __name__ == "__main__":
    unittest.main()
