"""2.1 and 2.2: how a day goes, its coal, its steam, its banked boilers."""

import random
import unittest

from mainfires.days import banked, coal_of, course, falls_at, keeps_up, steam_by
from mainfires.kinds import caps_of, draws_of, full_firing
from tests.helper import DAYS, ONE, ONE_STORY, TWO, TWO_FIRING, TWO_STORY, WIDE, WIDE_FIRING, WIDE_STORY


def one_boiler(low, high, start, extra):
    """A plant of one boiler that makes up to 9, without engines, and its story."""
    return (((9, 2),), (), (low, high, start)), (extra, ())


class Courses(unittest.TestCase):
    def assert_day(self, plant, story, firing, rows, short):
        told = course(plant, story, firing)
        self.assertEqual(told, rows)
        self.assertIsInstance(told, list)
        for row in told:
            self.assertIsInstance(row, tuple)
        self.assertEqual(falls_at(plant, story, firing), short)
        self.assertIs(keeps_up(plant, story, firing), short is None)

    def test_a_day_that_goes_well(self):
        rows = [(3, 3, 0, 5), (4, 4, 0, 5), (5, 5, 0, 5)]
        self.assert_day(ONE, ONE_STORY, ((3,), (4,), (5,)), rows, None)

    def test_a_day_of_several_boilers_and_engines(self):
        rows = [(9, 5, 0, 10), (3, 2, 0, 11), (2, 7, 0, 6), (6, 2, 0, 10)]
        self.assert_day(TWO, TWO_STORY, TWO_FIRING, rows, None)

    def test_a_long_day(self):
        rows = [(13, 9, 4, 40), (13, 29, 0, 24), (1, 10, 0, 15), (13, 13, 0, 15), (12, 9, 0, 18), (17, 14, 0, 21)]
        self.assert_day(WIDE, WIDE_STORY, WIDE_FIRING, rows + [(22, 13, 0, 30), (18, 22, 0, 26)], None)

    def test_it_falls_short_at_first(self):
        self.assert_day(*one_boiler(2, 10, 5, (4, 0, 0)), ((0,), (9,), (9,)), [], (0, 1))
        self.assert_day(*one_boiler(2, 10, 5, (20, 0, 0)), ((1,), (9,), (9,)), [], (0, 16))

    def test_it_falls_short_later(self):
        rows = [(1, 2, 0, 4), (2, 3, 0, 3)]
        self.assert_day(*one_boiler(2, 10, 5, (2, 3, 6, 0)), ((1,), (2,), (1,), (9,)), rows, (2, 4))

    def test_it_falls_short_in_the_last_hour(self):
        self.assert_day(*one_boiler(2, 10, 5, (1, 3)), ((0,), (0,)), [(0, 1, 0, 4)], (1, 1))

    def test_it_falls_short_by_one_unit_or_ends_just_at_low(self):
        self.assert_day(*one_boiler(2, 10, 5, (6, 0)), ((2,), (0,)), [], (0, 1))
        self.assert_day(*one_boiler(2, 10, 5, (6, 0)), ((3,), (0,)), [(3, 6, 0, 2), (0, 0, 0, 2)], None)

    def test_low_is_nought(self):
        self.assert_day(*one_boiler(0, 10, 5, (5,)), ((0,),), [(0, 5, 0, 0)], None)
        self.assert_day(*one_boiler(0, 10, 5, (6,)), ((0,),), [], (0, 1))

    def test_it_falls_short_once_though_later_hours_would_too(self):
        self.assert_day(*one_boiler(5, 10, 5, (1, 20, 20)), ((0,), (0,), (0,)), [], (0, 1))

    def test_what_is_above_high_is_blown_off(self):
        rows = [(9, 0, 4, 10), (9, 2, 7, 10), (0, 3, 0, 7)]
        self.assert_day(*one_boiler(2, 10, 5, (0, 2, 3)), ((9,), (9,), (0,)), rows, None)

    def test_it_ends_just_at_high_or_one_above(self):
        self.assert_day(*one_boiler(2, 10, 5, (1,)), ((6,),), [(6, 1, 0, 10)], None)
        self.assert_day(*one_boiler(2, 10, 5, (1,)), ((7,),), [(7, 1, 1, 10)], None)

    def test_what_is_made_is_drawn_ahead_of_the_valve(self):
        self.assert_day(*one_boiler(2, 10, 10, (9,)), ((9,),), [(9, 9, 0, 10)], None)

    def test_what_was_blown_off_is_gone(self):
        self.assert_day(*one_boiler(2, 10, 10, (0, 9)), ((9,), (0,)), [(9, 0, 9, 10)], (1, 1))

    def test_low_and_high_are_one(self):
        rows = [(3, 3, 0, 7), (5, 3, 2, 7)]
        self.assert_day(*one_boiler(7, 7, 7, (3, 3, 3)), ((3,), (5,), (2,)), rows, (2, 1))

    def test_engines_alone_draw_it_short(self):
        plant, story = (((9, 2),), ((3, 1, 2),), (0, 5, 5)), ((0, 0, 0, 0), ())
        self.assert_day(plant, story, ((0,),) * 4, [(0, 0, 0, 5), (0, 3, 0, 2), (0, 0, 0, 2)], (3, 1))

    def test_nothing_is_made_or_drawn(self):
        self.assert_day(*one_boiler(2, 10, 5, (0,) * 8), ((0,),) * 8, [(0, 0, 0, 5)] * 8, None)


class DaysOfManySorts(unittest.TestCase):
    """The points' own words, over many days: nothing is handed on from hour to hour but the main."""

    def setUp(self):
        self.chance = random.Random(21)
        self.days = [self.some_day() for step in range(600)]

    def some_day(self):
        pick = self.chance.randint
        low, start, high = sorted([pick(0, 20), pick(0, 20), pick(0, 20)])
        boilers = tuple([(pick(1, 9), pick(1, 9)) for boiler in range(pick(1, 4))])
        engines = tuple([(pick(1, 9), pick(0, 7), pick(1, 8)) for engine in range(pick(0, 2))])
        plant, hours = (boilers, engines, (low, high, start)), pick(1, 8)
        faults = tuple([self.some_fault(len(boilers), hours) for fault in range(pick(0, 4))])
        story = (tuple([pick(0, 12) for hour in range(hours)]), faults)
        firing = tuple([tuple([pick(cap // 2, cap) for cap in row]) for row in caps_of(plant, story)])
        return plant, story, firing

    def some_fault(self, boilers, hours):
        first = self.chance.randrange(hours)
        word = self.chance.choice(("out", "scaled"))
        return (self.chance.randrange(boilers), word, first, self.chance.randrange(first, hours))

    def test_each_row_follows_from_the_one_ahead(self):
        for plant, story, firing in self.days:
            low, high, main = plant[2]
            for hour, (made, drawn, blown, now) in enumerate(course(plant, story, firing)):
                self.assertEqual(made, sum(firing[hour]))
                self.assertEqual(drawn, draws_of(plant, story)[hour])
                self.assertEqual(made - drawn - blown, now - main)
                self.assertTrue(low <= now <= high)
                self.assertTrue(blown == 0 or (blown > 0 and now == high))
                main = now

    def test_it_ends_just_where_it_falls_short(self):
        seen = {True: 0, False: 0}
        for plant, story, firing in self.days:
            rows, short = course(plant, story, firing), falls_at(plant, story, firing)
            seen[short is None] += 1
            self.assertIs(keeps_up(plant, story, firing), short is None)
            if short is None:
                self.assertEqual(len(rows), len(story[0]))
            else:
                main = rows[-1][3] if rows else plant[2][2]
                lacks = plant[2][0] - main - sum(firing[len(rows)]) + draws_of(plant, story)[len(rows)]
                self.assertEqual(short, (len(rows), lacks))
                self.assertGreater(lacks, 0)
        self.assertTrue(min(seen.values()) > 50)

    def test_coal_and_steam_and_banked(self):
        for plant, story, firing in self.days:
            steam = [0] * len(plant[0])
            coal = 0
            nothing = []
            for hour in range(len(firing)):
                for boiler, made in enumerate(firing[hour]):
                    steam[boiler] += made
                    coal += made * plant[0][boiler][1]
                    if not made:
                        nothing.append((hour, boiler))
            self.assertEqual(steam_by(plant, story, firing), tuple(steam))
            self.assertEqual(coal_of(plant, story, firing), coal)
            self.assertEqual(banked(plant, story, firing), nothing)


class CoalAndSteam(unittest.TestCase):
    def test_of_a_firing_that_keeps_up(self):
        self.assertIs(keeps_up(TWO, TWO_STORY, TWO_FIRING), True)
        self.assertEqual(coal_of(TWO, TWO_STORY, TWO_FIRING), 17 * 2 + 3 * 5)
        self.assertEqual(steam_by(TWO, TWO_STORY, TWO_FIRING), (17, 3))
        self.assertEqual(banked(TWO, TWO_STORY, TWO_FIRING), [(1, 1), (2, 1), (3, 1)])

    def test_of_a_firing_that_falls_short_at_once(self):
        plant = (((6, 2), (3, 5)), (), (6, 12, 6))
        story = ((20, 0, 0), ())
        firing = ((0, 1), (6, 0), (5, 3))
        self.assertEqual(falls_at(plant, story, firing), (0, 19))
        self.assertEqual(coal_of(plant, story, firing), 11 * 2 + 4 * 5)
        self.assertEqual(steam_by(plant, story, firing), (11, 4))
        self.assertEqual(banked(plant, story, firing), [(0, 0), (1, 1)])

    def test_of_a_firing_in_which_nothing_is_made(self):
        firing = ((0, 0),) * 4
        self.assertIs(keeps_up(TWO, TWO_STORY, firing), False)
        self.assertEqual(coal_of(TWO, TWO_STORY, firing), 0)
        self.assertEqual(steam_by(TWO, TWO_STORY, firing), (0, 0))
        self.assertEqual(banked(TWO, TWO_STORY, firing), [(hour, boiler) for hour in range(4) for boiler in range(2)])

    def test_of_a_firing_in_which_each_makes(self):
        self.assertEqual(banked(ONE, ONE_STORY, ((3,), (4,), (5,))), [])
        self.assertEqual(banked(ONE, ONE_STORY, ((3,), (4,), (1,))), [])

    def test_a_boiler_that_is_out_makes_nothing_too(self):
        story = ((0, 0), ((0, "out", 1, 1),))
        self.assertEqual(banked(ONE, story, full_firing(ONE, story)), [(1, 0)])

    def test_kinds(self):
        for plant, story, firing in DAYS:
            self.assertIs(type(coal_of(plant, story, firing)), int)
            self.assertIs(type(steam_by(plant, story, firing)), tuple)
            told = banked(plant, story, firing)
            self.assertIs(type(told), list)
            self.assertEqual({type(row) for row in told} - {tuple}, set())
            self.assertEqual(told, sorted(told))


if __name__ == "__main__":
    unittest.main()
