"""8.1 and 8.2: tanks, feedings, and the hour that shows that a pump can't do."""

import itertools
import unittest

from mainfires.errors import NoFeeding, NoFiring, NoPlant, NoPump, NoStory, NoTanks
from mainfires.kinds import full_firing
from mainfires.water import dry_at, feeds, feeds_holds, is_feeding, least_pump, water_at
from tests.helper import ONE, ONE_FIRING, ONE_STORY, TWO, TWO_STORY, all_stories, as_lists, chance_firings, misshapen
from tests.helper import put, right_things, strange_things

# Two boilers that make 3 and 1 in each of three hours.
PAIR = (((4, 1), (4, 2)), (), (0, 40, 0))
STORY = ((0, 0, 0), ())
FIRING = ((3, 1), (3, 1), (3, 1))
TANKS = ((5, 2), (2, 0))

# The most that can be made in all, of the emptiest tanks: no pump need be greater.
MOST = (((9, 1),) * 4, (), (0, 0, 0))

FIRED = [(plant, story, firing) for plant, story in all_stories() for firing in chance_firings(plant, story)]


def tanks_for(plant, firing):
    """Tanks that come to their marks in different hours: of nothing, of the most, and some between."""
    made = [sum(row[boiler] for row in firing) for boiler in range(len(plant[0]))]
    return [
        tuple((0, 0) for units in made),
        tuple((60, 60) for units in made),
        tuple((60, 0) for units in made),
        tuple((60, 60 - units // 2) for units in made),
        tuple((units // 3, units // 3 // (boiler + 1)) for boiler, units in enumerate(made)),
        tuple((min(units // (boiler + 1), 60), 0) for boiler, units in enumerate(made)),
    ]


def hand_lacks(firing, tanks, hour):
    """What must be fed up to the hour, this one too: each boiler by what it lacks most at any hour's end up to it."""
    lacking = 0
    for boiler, (water, mark) in enumerate(tanks):
        ends = [water - sum(row[boiler] for row in firing[: at + 1]) for at in range(hour + 1)]
        lacking += max([0] + [mark - left for left in ends])
    return lacking


def hand_dry(firing, tanks, pump):
    """The least hour that shows that the pump can't do, None where there is none."""
    found = [hour for hour in range(len(firing)) if hand_lacks(firing, tanks, hour) > pump * (hour + 1)]
    return min(found, default=None)


def hand_water(firing, tanks, feeding):
    """What each boiler has at the end of each hour."""
    rows = []
    for hour in range(len(firing)):
        row = []
        for boiler, (water, mark) in enumerate(tanks):
            fed = sum(each[boiler] for each in feeding[: hour + 1])
            row.append(water + fed - sum(each[boiler] for each in firing[: hour + 1]))
        rows.append(tuple(row))
    return rows


def all_feedings(boilers, hours, pump):
    """All feedings by the pump."""
    rows = [row for row in itertools.product(range(pump + 1), repeat=boilers) if sum(row) <= pump]
    return list(itertools.product(rows, repeat=hours))


def never_dry(firing, tanks, feeding):
    """Whether by the feeding none is below its mark."""
    rows = hand_water(firing, tanks, feeding)
    return all(left >= mark for row in rows for left, (water, mark) in zip(row, tanks))


class Feedings(unittest.TestCase):
    def test_right_ones(self):
        for pump, thing in (
            (0, ((0, 0), (0, 0), (0, 0))),
            (3, ((0, 0), (0, 0), (0, 0))),
            (3, ((3, 0), (0, 3), (1, 2))),
            (40, ((40, 0), (0, 40), (20, 20))),
        ):
            self.assertIs(is_feeding(PAIR, STORY, pump, thing), True, (pump, thing))

    def test_an_hours_sum_just_at_the_pump_and_above_it(self):
        for pump in (0, 1, 2, 39, 40):
            for hour, boiler in itertools.product(range(3), range(2)):
                feeding = ((pump, 0), (0, pump), (pump // 2, pump - pump // 2))
                self.assertIs(is_feeding(PAIR, STORY, pump, feeding), True)
                more = put(feeding, (hour, boiler), feeding[hour][boiler] + 1)
                self.assertIs(is_feeding(PAIR, STORY, pump, more), False)

    def test_wrong_ones(self):
        right = ((1, 2), (0, 0), (3, 0))
        for thing in (
            ((1, 2), (0, 0)),
            ((1, 2), (0, 0), (3, 0), (0, 0)),
            ((1, 2), (0, 0), (3,)),
            ((1, 2), (0, 0), (3, 0, 0)),
            ((1, 2), (0, 0), (4, -1)),
            ((1, -1), (0, 0), (3, 0)),
            ((True, 2), (0, 0), (3, 0)),
            ((1, 2), (0, False), (3, 0)),
            ((1, 2), [0, 0], (3, 0)),
            ((1, 2), None, (3, 0)),
            ((1, "2"), (0, 0), (3, 0)),
        ):
            self.assertIs(is_feeding(PAIR, STORY, 3, thing), False, thing)
        self.assertIs(is_feeding(PAIR, STORY, 3, right), True)
        for thing in misshapen(right) + [as_lists(right), list(right), [right], (right,), {0: right}]:
            self.assertIs(is_feeding(PAIR, STORY, 3, thing), False, thing)

    def test_things_of_all_sorts(self):
        for thing in strange_things():
            for pump in (0, 40):
                self.assertIs(is_feeding(PAIR, STORY, pump, thing), False)
                self.assertIs(is_feeding(ONE, ONE_STORY, pump, thing), False)

    def test_what_a_boiler_can_make_does_not_bound_it(self):
        story = ((0,), ((0, "out", 0, 0),))
        self.assertIs(is_feeding(ONE, story, 40, ((40,),)), True)

    def test_each_of_all_of_a_small_pump(self):
        feedings = all_feedings(2, 2, 2)
        for thing in itertools.product(itertools.product(range(-1, 4), repeat=2), repeat=2):
            self.assertIs(is_feeding(PAIR, ((0, 0), ()), 2, thing), thing in feedings)


class WaterAt(unittest.TestCase):
    def test_by_hand(self):
        feeding = ((2, 0), (2, 1), (0, 0))
        self.assertEqual(water_at(PAIR, STORY, FIRING, TANKS, 3, feeding), [(4, 1), (3, 1), (0, 0)])
        self.assertEqual(dry_at(PAIR, STORY, FIRING, TANKS, 3, feeding), (2, 0))

    def test_below_nothing(self):
        nothing = ((0, 0),) * 3
        self.assertEqual(water_at(PAIR, STORY, FIRING, TANKS, 0, nothing), [(2, 1), (-1, 0), (-4, -1)])
        self.assertEqual(dry_at(PAIR, STORY, FIRING, TANKS, 0, nothing), (1, 0))

    def test_first_fed_then_taken(self):
        tanks = ((0, 0), (0, 0))
        self.assertEqual(water_at(PAIR, STORY, FIRING, tanks, 4, FIRING), [(0, 0)] * 3)
        self.assertIsNone(dry_at(PAIR, STORY, FIRING, tanks, 4, FIRING))

    def test_the_least_of_those_below_their_marks(self):
        nothing = ((0, 0),) * 3
        for tanks, due in (
            (((9, 0), (3, 0)), None),
            (((9, 1), (3, 0)), (2, 0)),
            (((9, 0), (3, 1)), (2, 1)),
            (((9, 1), (3, 1)), (2, 0)),
            (((9, 4), (3, 3)), (0, 1)),
            (((9, 7), (3, 3)), (0, 0)),
            (((9, 6), (3, 2)), (1, 0)),
            (((60, 60), (0, 0)), (0, 0)),
            (((60, 57), (0, 0)), (0, 1)),
        ):
            told = dry_at(PAIR, STORY, FIRING, tanks, 0, nothing)
            self.assertEqual((told, type(told)), (due, type(due)), tanks)

    def test_above_what_a_tank_has_at_first(self):
        self.assertEqual(water_at(ONE, ((0,), ()), ((0,),), ((60, 60),), 40, ((40,),)), [(100,)])

    def test_firings_that_do_not_keep_up_are_let(self):
        firing = ((0,), (0,), (0,))
        self.assertEqual(water_at(ONE, ONE_STORY, firing, ((3, 3),), 1, ((1,), (0,), (1,))), [(4,), (4,), (5,)])
        self.assertIsNone(dry_at(ONE, ONE_STORY, firing, ((3, 3),), 1, ((1,), (0,), (1,))))
        self.assertEqual(feeds(ONE, ONE_STORY, firing, ((3, 3),), 0), ("fed", ((0,), (0,), (0,))))
        self.assertEqual(least_pump(ONE, ONE_STORY, firing, ((3, 3),)), 0)

    def test_at_all_firings(self):
        for plant, story, firing in FIRED:
            boilers = len(plant[0])
            feeding = tuple(tuple((hour + boiler) % 3 for boiler in range(boilers)) for hour in range(len(firing)))
            for tanks in tanks_for(plant, firing):
                rows = hand_water(firing, tanks, feeding)
                told = water_at(plant, story, firing, tanks, 8, feeding)
                self.assertEqual((told, {type(row) for row in told}), (rows, {tuple}))
                found = [
                    (hour, boiler)
                    for hour, boiler in itertools.product(range(len(firing)), range(boilers))
                    if rows[hour][boiler] < tanks[boiler][1]
                ]
                self.assertEqual(dry_at(plant, story, firing, tanks, 8, feeding), min(found, default=None))


class Feeds(unittest.TestCase):
    def assert_fed(self, day, tanks, pump):
        word, feeding = feeds(*day, tanks, pump)
        self.assertEqual(word, "fed")
        self.assertIs(is_feeding(*day[:2], pump, feeding), True)
        self.assertIsNone(dry_at(*day, tanks, pump, feeding))
        self.assertTrue(never_dry(day[2], tanks, feeding))
        self.assertIs(feeds_holds(*day, tanks, pump, (word, feeding)), True)

    def assert_dry(self, day, tanks, pump, hour):
        told = feeds(*day, tanks, pump)
        self.assertEqual((told, type(told[1])), (("dry", hour), int))
        for each in range(-1, 9):
            self.assertIs(feeds_holds(*day, tanks, pump, ("dry", each)), each == hour)

    def test_by_hand(self):
        day = (PAIR, STORY, FIRING)
        # Without any feeding 0, 3 and 6 lack of the first, 0, 0 and 1 of the other.
        for pump in (3, 4, 40):
            self.assert_fed(day, TANKS, pump)
        self.assert_dry(day, TANKS, 2, 2)
        self.assert_dry(day, TANKS, 1, 1)
        self.assert_dry(day, TANKS, 0, 1)
        self.assertEqual(least_pump(*day, TANKS), 3)

    def test_marks_at_the_water(self):
        tanks = ((60, 60), (0, 0))
        self.assert_fed((PAIR, STORY, FIRING), tanks, 4)
        self.assert_dry((PAIR, STORY, FIRING), tanks, 3, 0)
        self.assertEqual(feeds(PAIR, STORY, FIRING, tanks, 4), ("fed", FIRING))

    def test_tanks_that_do_by_themselves(self):
        for tanks in (((9, 0), (3, 0)), ((60, 0), (60, 57)), ((60, 51), (60, 0))):
            self.assertEqual(feeds(PAIR, STORY, FIRING, tanks, 0), ("fed", ((0, 0),) * 3))
            self.assertEqual(least_pump(PAIR, STORY, FIRING, tanks), 0)
        self.assert_dry((PAIR, STORY, FIRING), ((60, 52), (60, 0)), 0, 2)
        self.assertEqual(least_pump(PAIR, STORY, FIRING, ((60, 52), (60, 0))), 1)

    def test_what_is_due_late_is_fed_ahead(self):
        firing = ((0, 0), (0, 0), (4, 2))
        tanks = ((0, 0), (0, 0))
        self.assert_fed((PAIR, STORY, firing), tanks, 2)
        self.assert_dry((PAIR, STORY, firing), tanks, 1, 2)
        self.assertEqual(least_pump(PAIR, STORY, firing, tanks), 2)

    def test_what_is_due_first_is_fed_first(self):
        firing = ((0, 2), (4, 0), (0, 0))
        self.assert_fed((PAIR, STORY, firing), ((0, 0), (0, 0)), 3)
        self.assert_dry((PAIR, STORY, firing), ((0, 0), (0, 0)), 2, 1)
        self.assert_dry((PAIR, STORY, firing), ((0, 0), (0, 0)), 1, 0)

    def test_the_least_hour_alone(self):
        firing = ((4, 0), (0, 0), (4, 4))
        tanks = ((0, 0), (0, 0))
        # Up to the hours 0 and 2 more must be fed than 3, up to the hour 1 not.
        self.assert_dry((PAIR, STORY, firing), tanks, 3, 0)
        self.assert_dry((PAIR, STORY, firing), ((1, 0), (0, 0)), 3, 2)
        self.assert_fed((PAIR, STORY, firing), tanks, 4)

    def test_at_all_firings(self):
        seen = []
        for plant, story, firing in FIRED:
            for tanks in tanks_for(plant, firing):
                least = least_pump(plant, story, firing, tanks)
                for pump in sorted({0, 1, 5, 40, least, max(least - 1, 0)}):
                    hour = hand_dry(firing, tanks, pump)
                    seen.append(hour)
                    if hour is None:
                        self.assert_fed((plant, story, firing), tanks, pump)
                    else:
                        self.assert_dry((plant, story, firing), tanks, pump, hour)
        self.assertLessEqual(set(range(4)) | {None}, set(seen))

    def test_through_all_feedings(self):
        story = ((0, 0), ())
        tanks_tried = (((0, 0), (0, 0)), ((2, 1), (1, 0)), ((1, 1), (3, 1)))
        for firing in (((2, 1), (0, 2)), ((0, 0), (3, 2)), ((3, 0), (1, 0)), ((1, 1), (1, 1))):
            for tanks, pump in itertools.product(tanks_tried, range(5)):
                some = any(never_dry(firing, tanks, each) for each in all_feedings(2, 2, pump))
                self.assertEqual(feeds(PAIR, story, firing, tanks, pump)[0], "fed" if some else "dry")
                self.assertEqual(some, pump >= least_pump(PAIR, story, firing, tanks))


class FeedsHolds(unittest.TestCase):
    day = (PAIR, STORY, FIRING, TANKS)

    def test_any_feeding_that_does(self):
        for feeding in (((0, 0), (3, 0), (3, 1)), ((4, 0), (1, 1), (1, 3)), ((2, 2), (2, 2), (2, 2))):
            self.assertIs(feeds_holds(*self.day, 4, ("fed", feeding)), True, feeding)

    def test_feedings_that_do_not(self):
        for feeding in (
            ((0, 0), (2, 0), (4, 1)),
            ((0, 0), (3, 0), (2, 1)),
            ((0, 0), (3, 0), (3, 0)),
            ((0, 0), (3, 0), (4, 1)),
            ((0, 0), (3, 2), (3, 1)),
            ((0, 0), (3, 0), (3, 1), (0, 0)),
            ((3, 0), (3, 1)),
            [[0, 0], [3, 0], [3, 1]],
            None,
            0,
        ):
            self.assertIs(feeds_holds(*self.day, 4, ("fed", feeding)), False, feeding)

    def test_a_dry_hour_where_there_is_none(self):
        for hour in (-1, 0, 1, 2, 3, None, "2"):
            self.assertIs(feeds_holds(*self.day, 3, ("dry", hour)), False)

    def test_a_truth_is_no_hour(self):
        self.assertIs(feeds_holds(*self.day, 1, ("dry", 1)), True)
        self.assertIs(feeds_holds(*self.day, 1, ("dry", True)), False)
        tanks = ((0, 0), (0, 0))
        self.assertIs(feeds_holds(*self.day[:3], tanks, 1, ("dry", 0)), True)
        self.assertIs(feeds_holds(*self.day[:3], tanks, 1, ("dry", False)), False)

    def test_words_and_lengths(self):
        feeding = ((0, 0), (3, 0), (3, 1))
        for thing in (
            ("fed",), ("fed", feeding, 0), ["fed", feeding], ("dry", feeding), ("Fed", feeding), ("", feeding),
            (None, feeding), ("fed ", feeding), (feeding, "fed"), {"fed": feeding}, feeding, ("fed", (feeding,)),
            ("fed", ("fed", feeding)), (("fed",), feeding), ("fed", "dry"), "fe", "dr",
        ):  # fmt: skip
            self.assertIs(feeds_holds(*self.day, 4, thing), False, thing)
        for thing in (
            ("dry",), ("dry", 2, 2), ["dry", 2], ("fed", 2), (2, "dry"), {"dry": 2}, ("dry", "2"), ("dry", [2]),
        ):  # fmt: skip
            self.assertIs(feeds_holds(*self.day, 2, thing), False, thing)

    def test_things_of_all_sorts(self):
        papers = [feeds(*self.day, pump) for pump in (0, 40)]
        wrong = strange_things() + misshapen(papers[0]) + misshapen(papers[1]) + [as_lists(each) for each in papers]
        for thing, pump in itertools.product(wrong, (0, 3)):
            self.assertIs(feeds_holds(*self.day, pump, thing), False, thing)


class LeastPump(unittest.TestCase):
    def test_the_most_that_is_ever_due(self):
        # A mark is no more than the water, so no hour asks more than its steam, at most 4 times 9.
        story = ((0,) * 8, ())
        full = full_firing(MOST, story)
        for tanks in (((0, 0),) * 4, ((60, 60),) * 4):
            self.assertEqual(least_pump(MOST, story, full, tanks), 36)
            self.assertEqual(feeds(MOST, story, full, tanks, 36), ("fed", full))
            self.assertEqual(feeds(MOST, story, full, tanks, 35), ("dry", 0))

    def test_rounded_up(self):
        firing = ((0,), (0,), (4,))
        for water, due in ((0, 2), (1, 1), (2, 1), (3, 1), (4, 0)):
            told = least_pump(ONE, STORY, firing, ((water, 0),))
            self.assertEqual((told, type(told)), (due, int))

    def test_the_hour_that_asks_most(self):
        self.assertEqual(least_pump(ONE, STORY, ((5,), (1,), (0,)), ((0, 0),)), 5)
        self.assertEqual(least_pump(ONE, STORY, ((1,), (5,), (0,)), ((0, 0),)), 3)
        self.assertEqual(least_pump(ONE, STORY, ((1,), (1,), (5,)), ((0, 0),)), 3)

    def test_it_feeds_and_one_less_does_not(self):
        for plant, story, firing in FIRED:
            for tanks in tanks_for(plant, firing):
                least = least_pump(plant, story, firing, tanks)
                self.assertEqual(feeds(plant, story, firing, tanks, least)[0], "fed")
                if least > 0:
                    self.assertEqual(feeds(plant, story, firing, tanks, least - 1)[0], "dry")


class Refused(unittest.TestCase):
    nothing = ((0, 0),) * 3

    def calls(self, tanks, pump, feeding):
        """Each function that takes tanks, with these."""
        day = (PAIR, STORY, FIRING, tanks)
        return (
            lambda: water_at(*day, pump, feeding),
            lambda: dry_at(*day, pump, feeding),
            lambda: feeds(*day, pump),
            lambda: feeds_holds(*day, pump, ("dry", 0)),
            lambda: least_pump(*day),
        )

    def test_tanks_at_their_bounds(self):
        for tanks in (((0, 0), (60, 60)), ((60, 0), (1, 1)), ((60, 59), (1, 0))):
            for call in self.calls(tanks, 0, self.nothing):
                call()

    def test_no_tanks(self):
        for tanks in (
            ((61, 0), (2, 0)), ((60, 61), (2, 0)), ((5, 6), (2, 0)), ((5, -1), (2, 0)), ((-1, -1), (2, 0)),
            ((5, 2), (0, 1)), ((5, 2),), ((5, 2), (2, 0), (1, 1)), ((5, 2), (2,)), ((5, 2), (2, 0, 0)), (), None,
            ((True, 0), (2, 0)), ((5, False), (2, 0)), [(5, 2), (2, 0)], ((5, 2), [2, 0]), ((5, 2), None),
            ((5, "2"), (2, 0)), ((5, None), (2, 0)), ((None, 0), (2, 0)), (5, 2), "5 2",
        ):  # fmt: skip
            for pump in (0, None, 41):
                for call in self.calls(tanks, pump, self.nothing):
                    with self.assertRaises(NoTanks):
                        call()

    def test_pumps_at_their_bounds(self):
        for pump in (0, 40):
            self.assertIs(is_feeding(PAIR, STORY, pump, self.nothing), True)
            for call in self.calls(TANKS, pump, self.nothing):
                call()

    def test_no_pump(self):
        for pump in (-1, 41, 10**30, True, False, None, "1", (), (1,), [1], {}):
            for call in self.calls(TANKS, pump, None)[:4]:
                with self.assertRaises(NoPump):
                    call()
            with self.assertRaises(NoPump):
                is_feeding(PAIR, STORY, pump, self.nothing)

    def test_no_feeding(self):
        for feeding in (None, (), ((2, 2),) * 3, ((3, 0),) * 2, ((3, 0),) * 4, [(3, 0)] * 3, ((-1, 0),) * 3):
            for call in self.calls(TANKS, 3, feeding)[:2]:
                with self.assertRaises(NoFeeding):
                    call()

    def test_in_the_order_of_the_arguments(self):
        things = right_things((PAIR, STORY, FIRING))
        right = [things[name] for name in ("plant", "story", "firing", "tanks", "pump", "feeding")]
        classes = (NoPlant, NoStory, NoFiring, NoTanks, NoPump, NoFeeding)
        for call, many in ((water_at, 6), (dry_at, 6), (feeds, 5), (least_pump, 4)):
            for at, error in enumerate(classes[:many]):
                with self.assertRaises(error):
                    call(*right[:at], *[None] * (many - at))
        for at, error in enumerate(classes[:5]):
            with self.assertRaises(error):
                feeds_holds(*right[:at], *[None] * (5 - at), ("dry", 0))
        for at, error in enumerate((NoPlant, NoStory, NoPump)):
            with self.assertRaises(error):
                is_feeding(*[PAIR, STORY][:at], *[None] * (4 - at))

    def test_a_firing_of_another(self):
        with self.assertRaises(NoFiring):
            feeds(TWO, TWO_STORY, ONE_FIRING, None, None)

    def test_told_lists_are_new(self):
        told = water_at(PAIR, STORY, FIRING, TANKS, 0, self.nothing)
        told[0] = None
        told.append(None)
        self.assertEqual(water_at(PAIR, STORY, FIRING, TANKS, 0, self.nothing), [(2, 1), (-1, 0), (-4, -1)])


if __name__ == "__main__":
    unittest.main()
