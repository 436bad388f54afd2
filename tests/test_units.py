"""5.1 and 5.2: what a unit more or less is worth."""

import unittest

from mainfires.errors import NoBoiler, NoHour, NoPlant, NoStory, NoWay
from mainfires.least import cheapest, least_coal, prices_hold
from mainfires.units import better, fuller, less_drawn, lower, more_drawn, wider
from tests.helper import SHORT, SHORT_STORY, TIGHT, TIGHT_STORY, all_stories, hand_terms, walked_coal

ALL = all_stories()
KEPT = [(plant, story) for plant, story in ALL if walked_coal(hand_terms(plant, story)) is not None]
LOST = [(plant, story) for plant, story in ALL if walked_coal(hand_terms(plant, story)) is None]


def coal_then(plant, story, change):
    """The least coal once the terms are changed."""
    terms = hand_terms(plant, story)
    change(terms)
    return walked_coal(terms)


def put_draw(hour, units):
    def change(terms):
        terms["draws"][hour] += units

    return change


def put_main(at, units):
    def change(terms):
        terms["main"][at] += units

    return change


def put_cap(boiler, hour):
    def change(terms):
        terms["caps"][hour][boiler] += 1

    return change


class Drawn(unittest.TestCase):
    def test_by_hand(self):
        # A unit more in the hour 0 or 2 is made by the cheap boiler, in the hour 1 by the dear one.
        self.assertEqual([more_drawn(TIGHT, TIGHT_STORY, hour) for hour in range(3)], [1, 5, 1])
        self.assertEqual([less_drawn(TIGHT, TIGHT_STORY, hour) for hour in range(3)], [None, 5, None])

    def test_where_no_firing_keeps_up_then(self):
        plant = (((3, 2),), (), (1, 5, 2))
        self.assertIsNone(more_drawn(plant, ((4,), ()), 0))
        self.assertEqual(less_drawn(plant, ((4,), ()), 0), 2)
        self.assertEqual(more_drawn(plant, ((3,), ()), 0), 2)
        self.assertEqual(more_drawn(plant, ((4, 0), ()), 1), 2)
        self.assertIsNone(more_drawn(plant, ((4, 0), ()), 0))

    def test_what_is_there_is_worth_nothing(self):
        plant = (((3, 2),), (), (0, 9, 9))
        self.assertEqual(more_drawn(plant, ((3, 5), ()), 0), 0)
        self.assertEqual(less_drawn(plant, ((3, 5), ()), 0), 0)
        self.assertEqual(more_drawn(plant, ((3, 6), ()), 1), 2)
        self.assertEqual(less_drawn(plant, ((3, 6), ()), 1), 0)

    def test_what_engines_draw_counts(self):
        plant = (((3, 2),), ((2, 0, 2),), (0, 0, 0))
        self.assertEqual([less_drawn(plant, ((0, 0, 0), ()), hour) for hour in range(3)], [2, None, 2])

    def test_beyond_the_most_that_is_drawn_besides(self):
        plant = (((9, 1), (9, 2), (9, 3)), (), (0, 0, 0))
        self.assertEqual(more_drawn(plant, ((20,), ()), 0), 3)
        self.assertEqual(less_drawn(plant, ((20,), ()), 0), 3)

    def test_at_all_stories(self):
        for plant, story in KEPT:
            coal = least_coal(plant, story)
            for hour, drawn in enumerate(hand_terms(plant, story)["draws"]):
                more = coal_then(plant, story, put_draw(hour, 1))
                self.assertEqual(more_drawn(plant, story, hour), None if more is None else more - coal)
                if drawn == 0:
                    self.assertIsNone(less_drawn(plant, story, hour))
                else:
                    less = coal_then(plant, story, put_draw(hour, -1))
                    self.assertEqual(less_drawn(plant, story, hour), coal - less)

    def test_prices_lie_between(self):
        for plant, story in KEPT:
            word, coal, firing, prices = cheapest(plant, story)
            self.assertTrue(prices_hold(plant, story, firing, prices))
            for hour, price in enumerate(prices):
                more = more_drawn(plant, story, hour)
                less = less_drawn(plant, story, hour)
                self.assertTrue(more is None or price <= more)
                self.assertTrue(less is None or less <= price)


class Bounds(unittest.TestCase):
    def test_by_hand(self):
        self.assertEqual(wider(TIGHT, TIGHT_STORY), 4)
        self.assertEqual(lower(TIGHT, TIGHT_STORY), 5)
        self.assertEqual(fuller(TIGHT, TIGHT_STORY), 1)
        told = [[better(TIGHT, TIGHT_STORY, boiler, hour) for hour in range(3)] for boiler in range(2)]
        self.assertEqual(told, [[0, 4, 0], [0, 0, 0]])

    def test_at_all_stories(self):
        for plant, story in KEPT:
            coal = least_coal(plant, story)
            low, high, start = plant[2]
            self.assertEqual(wider(plant, story), coal - coal_then(plant, story, put_main(1, 1)))
            due = None if low == 0 else coal - coal_then(plant, story, put_main(0, -1))
            self.assertEqual(lower(plant, story), due)
            due = None if start == high else coal - coal_then(plant, story, put_main(2, 1))
            self.assertEqual(fuller(plant, story), due)

    def test_better_at_all_stories(self):
        for plant, story in KEPT:
            coal = least_coal(plant, story)
            for boiler in range(len(plant[0])):
                for hour in range(len(story[0])):
                    due = coal - coal_then(plant, story, put_cap(boiler, hour))
                    self.assertEqual(better(plant, story, boiler, hour), due)
                    self.assertGreaterEqual(due, 0)

    def test_low_of_0_and_start_at_high(self):
        plant = (((3, 2),), (), (0, 4, 4))
        self.assertIsNone(lower(plant, ((5,), ())))
        self.assertIsNone(fuller(plant, ((5,), ())))
        self.assertEqual(lower((((3, 2),), (), (1, 4, 3)), ((5,), ())), 2)
        self.assertEqual(fuller((((3, 2),), (), (1, 4, 3)), ((5,), ())), 2)

    def test_beyond_the_most_of_a_plant(self):
        plant = (((9, 1), (9, 9)), (), (0, 40, 40))
        # The main is full at first, so with the same high the cheap boiler makes nothing.
        story = ((0, 20, 20, 20), ((0, "out", 1, 3),))
        self.assertEqual(wider(plant, story), 8)
        self.assertEqual(wider(plant, ((0, 20), ())), 0)
        plant = (((9, 1), (9, 9)), (), (0, 0, 0))
        self.assertEqual(better(plant, ((10,), ()), 0, 0), 8)
        self.assertEqual(better(plant, ((10,), ()), 1, 0), 0)

    def test_better_where_the_boiler_is_out_or_scaled(self):
        plant = (((5, 1), (9, 9)), (), (0, 0, 0))
        story = ((3, 3, 3), ((0, "out", 0, 0), (0, "scaled", 1, 1)))
        self.assertEqual([better(plant, story, 0, hour) for hour in range(3)], [8, 8, 0])

    def test_lower_counts_at_the_end_alone_where_nothing_else_binds(self):
        # What stays in the main behind the last hour is low, a unit of it the cheapest that was made.
        plant = (((3, 2), (3, 7)), (), (3, 9, 3))
        self.assertEqual(lower(plant, ((1, 1), ())), 2)
        self.assertEqual(lower(plant, ((0, 0), ())), 0)


class NoWays(unittest.TestCase):
    def calls(self, plant, story):
        return [
            lambda: more_drawn(plant, story, 0),
            lambda: less_drawn(plant, story, 0),
            lambda: wider(plant, story),
            lambda: lower(plant, story),
            lambda: fuller(plant, story),
            lambda: better(plant, story, 0, 0),
        ]

    def test_where_no_firing_keeps_up(self):
        for plant, story in LOST:
            for call in self.calls(plant, story):
                with self.assertRaises(NoWay):
                    call()

    def test_also_where_none_would_be_told(self):
        # Low is 0, start is high, nothing is drawn in the hour 1; a unit better would do.
        plant = (((2, 1),), (), (0, 2, 2))
        story = ((5, 0), ())
        still = [lambda: less_drawn(plant, story, 1), lambda: more_drawn(plant, story, 1)]
        for call in self.calls(plant, story) + still:
            with self.assertRaises(NoWay):
                call()

    def test_where_some_firing_keeps_up_nothing_is_refused(self):
        for plant, story in KEPT[:40]:
            for call in self.calls(plant, story):
                call()

    def test_hours_and_boilers_are_refused_first(self):
        for plant, story in ((SHORT, SHORT_STORY), (TIGHT, TIGHT_STORY)):
            for wrong in (-1, 3, None, True, False, "0", (0,), [0], 10**30):
                with self.assertRaises(NoHour):
                    more_drawn(plant, story, wrong)
                with self.assertRaises(NoHour):
                    less_drawn(plant, story, wrong)
                with self.assertRaises(NoHour):
                    better(plant, story, 0, wrong)
                with self.assertRaises(NoBoiler):
                    better(plant, story, wrong, 0)
                with self.assertRaises(NoBoiler):
                    better(plant, story, wrong, wrong)

    def test_bounds_of_hours_and_boilers(self):
        with self.assertRaises(NoBoiler):
            better(TIGHT, TIGHT_STORY, 2, 0)
        self.assertEqual(better(TIGHT, TIGHT_STORY, 1, 2), 0)
        with self.assertRaises(NoHour):
            more_drawn(TIGHT, ((0, 1), ()), 2)
        with self.assertRaises(NoBoiler):
            better(SHORT, SHORT_STORY, 1, 0)

    def test_plants_and_stories_are_refused_first(self):
        for call in (more_drawn, less_drawn):
            with self.assertRaises(NoPlant):
                call(None, None, None)
            with self.assertRaises(NoStory):
                call(SHORT, None, None)
        for call in (wider, lower, fuller):
            with self.assertRaises(NoPlant):
                call(None, None)
            with self.assertRaises(NoStory):
                call(SHORT, None)
        with self.assertRaises(NoStory):
            better(SHORT, None, None, None)


if __name__ == "__main__":
    unittest.main()
