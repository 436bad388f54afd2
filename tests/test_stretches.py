"""4.1 and 4.2: stretches, and what the main can and may have."""

import unittest

from mainfires.days import course, keeps_up
from mainfires.kinds import caps_of, draws_of
from mainfires.stretches import fullest, leanest, stretch_holds, stretch_of
from tests.helper import DAYS, EDGES, ONE, ONE_STORY, SHORT, SHORT_STORY, TIGHT, TIGHT_STORY, TWO, TWO_STORY
from tests.helper import all_firings, all_stories, hand_terms, mains_reached, misshapen, strange_things, walked_coal

ALL = all_stories()


def lacks(plant, story, first, last):
    """By how much what can be had in a stretch is less than what is drawn in it and low."""
    low, high, start = plant[2]
    lacking = low - (start if first == 0 else high)
    for hour in range(first, last + 1):
        lacking += draws_of(plant, story)[hour] - sum(caps_of(plant, story)[hour])
    return lacking


def stretches(story):
    hours = range(len(story[0]))
    return [(first, last) for first in hours for last in hours if first <= last]


def mains_that_last(plant, story):
    """For each hour the mains at its end from which some firing goes on and keeps up."""
    low, high, start = plant[2]
    lasting = set(range(low, high + 1))
    told = [lasting]
    for row, drawn in list(zip(caps_of(plant, story), draws_of(plant, story)))[:0:-1]:
        lasting = {
            main
            for main in range(low, high + 1)
            for made in range(sum(row) + 1)
            if min(main + made - drawn, high) in lasting
        }
        told.insert(0, lasting)
    return told


class Stretches(unittest.TestCase):
    def test_by_hand_where_no_firing_keeps_up(self):
        self.assertEqual(stretch_of(SHORT, SHORT_STORY), (0, 2))
        held = [stretch for stretch in stretches(SHORT_STORY) if stretch_holds(SHORT, SHORT_STORY, stretch)]
        self.assertEqual(held, [(0, 2), (2, 2)])

    def test_by_hand_where_some_firing_keeps_up(self):
        for plant, story in ((ONE, ONE_STORY), (TWO, TWO_STORY), (TIGHT, TIGHT_STORY)):
            self.assertIsNone(stretch_of(plant, story))
            for stretch in stretches(story):
                self.assertIs(stretch_holds(plant, story, stretch), False)

    def test_just_enough_shows_nothing(self):
        plant = (((3, 1),), (), (2, 9, 5))
        self.assertIsNone(stretch_of(plant, ((6,), ())))
        self.assertIs(stretch_holds(plant, ((6,), ()), (0, 0)), False)
        self.assertEqual(stretch_of(plant, ((7,), ())), (0, 0))
        self.assertIs(stretch_holds(plant, ((7,), ()), (0, 0)), True)
        # Behind the first hour it is high that counts, not start.
        self.assertIsNone(stretch_of(plant, ((0, 9), ())))
        self.assertEqual(stretch_of(plant, ((0, 10), ())), (0, 1))
        self.assertIs(stretch_holds(plant, ((0, 10), ()), (1, 1)), False)
        self.assertIs(stretch_holds(plant, ((0, 11), ()), (1, 1)), True)

    def test_the_least_is_by_its_first_hour_ahead_of_its_last(self):
        plant = (((1, 1),), (), (0, 3, 3))
        story = ((0, 5, 0, 9), ())
        self.assertEqual([each for each in stretches(story) if stretch_holds(plant, story, each)], [
            (0, 3), (1, 1), (1, 3), (2, 3), (3, 3),
        ])  # fmt: skip
        self.assertEqual(stretch_of(plant, story), (0, 3))

    def test_a_stretch_of_all_eight_hours(self):
        plant = (((5, 9),), ((5, 0, 1),), (0, 2, 2))
        self.assertEqual(stretch_of(plant, ((1, 0, 0, 0, 0, 0, 0, 2), ())), (0, 7))
        self.assertIsNone(stretch_of(plant, ((1, 0, 0, 0, 0, 0, 0, 1), ())))

    def test_each_stretch_at_all_stories(self):
        for plant, story in ALL:
            shown = [stretch for stretch in stretches(story) if lacks(plant, story, *stretch) > 0]
            told = [stretch for stretch in stretches(story) if stretch_holds(plant, story, stretch)]
            self.assertEqual(told, shown)
            self.assertEqual(stretch_of(plant, story), min(shown, default=None))

    def test_there_is_one_just_where_no_firing_keeps_up(self):
        for plant, story in ALL:
            self.assertEqual(stretch_of(plant, story) is None, walked_coal(hand_terms(plant, story)) is not None)

    def test_both_sorts_are_among_the_stories(self):
        short = [stretch_of(plant, story) for plant, story in ALL if stretch_of(plant, story) is not None]
        self.assertTrue(20 < len(short) < len(ALL) - 20)
        self.assertGreater(len({first for first, last in short}), 3)

    def test_names_of_edges_tell_which_are_short(self):
        for name, plant, story in EDGES:
            due = "short" in name or "beyond" in name
            self.assertEqual(stretch_of(plant, story) is not None, due, name)

    def test_things_of_all_sorts(self):
        for plant, story in ((SHORT, SHORT_STORY), (ONE, ONE_STORY), (TWO, TWO_STORY)):
            for thing in strange_things():
                self.assertIs(stretch_holds(plant, story, thing), False, thing)

    def test_misshapen_ones(self):
        for thing in misshapen((0, 2)) + misshapen((2, 2)):
            self.assertIs(stretch_holds(SHORT, SHORT_STORY, thing), False, thing)
        for thing in ((0, 2, 2), (0,), (2,), (2, 0), (0, 3), (-3, 2), (-1, 2), (3, 3), ("short", 0, 2), ((0, 2),)):
            self.assertIs(stretch_holds(SHORT, SHORT_STORY, thing), False, thing)

    def test_truths_are_no_hours(self):
        plant = (((1, 1),), (), (0, 0, 0))
        for thing in ((0, 0), (0, 1), (1, 1)):
            self.assertIs(stretch_holds(plant, ((9, 9), ()), thing), True)
        for thing in ((False, 0), (0, False), (False, True), (0, True), (True, True), (1, True), (True, 1)):
            self.assertIs(stretch_holds(plant, ((9, 9), ()), thing), False)

    def test_a_stretch_turned_round_shows_nothing(self):
        plant = (((1, 1),), (), (3, 3, 3))
        for thing in ((1, 0), (2, 0), (2, 1)):
            self.assertIs(stretch_holds(plant, ((20, 20, 20), ()), thing), False)


class FullestAndLeanest(unittest.TestCase):
    def test_by_hand(self):
        self.assertEqual(fullest(TIGHT, TIGHT_STORY), (4, 3, 4))
        self.assertEqual(leanest(TIGHT, TIGHT_STORY), (2, 1, 1))
        self.assertEqual(fullest(TWO, TWO_STORY), (10, 12, 8, 12))
        self.assertEqual(leanest(TWO, TWO_STORY), (2, 6, 2, 2))

    def test_by_hand_where_no_firing_keeps_up(self):
        self.assertEqual(fullest(SHORT, SHORT_STORY), (1, 3))
        self.assertIsNone(leanest(SHORT, SHORT_STORY))
        self.assertEqual(fullest(ONE, ((20, 0), ())), ())
        self.assertIsNone(leanest(ONE, ((20, 0), ())))

    def test_just_low_and_just_below(self):
        plant = (((3, 1),), (), (2, 9, 5))
        self.assertEqual(fullest(plant, ((6, 0), ())), (2, 5))
        self.assertEqual(fullest(plant, ((7, 0), ())), ())
        self.assertEqual(leanest(plant, ((6, 10), ())), None)
        self.assertEqual(leanest(plant, ((0, 9), ())), (8, 2))

    def test_what_is_ahead_does_not_count_for_the_leanest(self):
        # Nothing is drawn, so the main never has as little as low: but from there some firing would go on.
        plant = (((3, 1),), (), (0, 9, 5))
        self.assertEqual(leanest(plant, ((0, 0), ())), (0, 0))
        self.assertEqual(fullest(plant, ((0, 0), ())), (8, 9))

    def test_fullest_at_all_stories(self):
        for plant, story in ALL:
            reached = [max(mains) for mains in mains_reached(hand_terms(plant, story)) if mains]
            self.assertEqual(fullest(plant, story), tuple(reached))

    def test_leanest_at_all_stories(self):
        for plant, story in ALL:
            if stretch_of(plant, story) is None:
                lasting = [min(mains) for mains in mains_that_last(plant, story)]
                self.assertEqual(leanest(plant, story), tuple(lasting))
            else:
                self.assertIsNone(leanest(plant, story))

    def test_both_by_all_firings(self):
        plant = (((2, 1), (1, 3)), (), (1, 4, 2))
        for story in (((1, 4, 2), ()), ((3, 3, 3), ()), ((0, 6, 0), ()), ((1, 4), ((0, "out", 0, 0),)), ((5, 0), ())):
            days = [(course(plant, story, firing), firing) for firing in all_firings(plant, story)]
            hours = range(len(story[0]))
            ends = [[rows[hour][3] for rows, firing in days if len(rows) > hour] for hour in hours]
            self.assertEqual(fullest(plant, story), tuple([max(mains) for mains in ends if mains]))
            if any(keeps_up(plant, story, firing) for rows, firing in days):
                self.assertEqual(leanest(plant, story), self.least_that_last(plant, story))
            else:
                self.assertIsNone(leanest(plant, story))

    def least_that_last(self, plant, story):
        low, high, start = plant[2]
        told = []
        for hour in range(len(story[0]) - 1):
            rest = (story[0][hour + 1 :], ())
            caps = caps_of(plant, story)[hour + 1 :]
            mains = [
                main
                for main in range(low, high + 1)
                if self.some_keeps_up((plant[0], plant[1], (low, high, main)), rest, caps)
            ]
            told.append(min(mains))
        return tuple(told) + (low,)

    def some_keeps_up(self, plant, rest, caps):
        return any(keeps_up(plant, rest, firing) and self.fits(firing, caps) for firing in all_firings(plant, rest))

    def fits(self, firing, caps):
        return all(made <= cap for row, most in zip(firing, caps) for made, cap in zip(row, most))

    def test_kinds(self):
        for plant, story, firing in DAYS:
            self.assertIs(type(fullest(plant, story)), tuple)
            self.assertIs(type(leanest(plant, story)), tuple)
        self.assertIs(type(stretch_of(SHORT, SHORT_STORY)), tuple)


if __name__ == "__main__":
    unittest.main()
