"""7.1 and 7.2: what must be moved where a boiler goes out."""

import functools
import itertools
import unittest

from mainfires.days import keeps_up
from mainfires.errors import NoBoiler, NoFiring, NoHour, NoPlant, NoStory
from mainfires.kinds import full_firing, is_firing
from mainfires.outs import least_moved, moved, moved_by, outs_let
from tests.helper import DAYS, ONE, ONE_FIRING, ONE_STORY, all_firings, all_stories, as_lists, chance_firings
from tests.helper import hand_terms, misshapen, put, strange_things

# The boiler 0 makes just what is drawn, the boiler 1 nothing.
PAIR = (((4, 1), (4, 2)), (), (0, 6, 0))
PAIR_STORY = ((2, 2, 2), ())
PAIR_FIRING = ((2, 0), (2, 0), (2, 0))

# All that is drawn in the hour 2 is made in it, by both boilers: each alone must have begun ahead of it.
LATE = (((4, 1), (4, 2)), (), (0, 10, 0))
LATE_STORY = ((0, 0, 8, 0), ())
LATE_FIRING = ((0, 0), (0, 0), (4, 4), (0, 0))

SMALL = (
    ((((2, 1), (2, 2)), (), (0, 3, 0)), ((2, 1), ())),
    ((((2, 1), (3, 1)), (), (1, 2, 1)), ((2, 3), ())),
    ((((2, 1), (1, 1), (1, 2)), (), (0, 2, 1)), ((1, 4), ())),
    ((((3, 1), (2, 1)), (), (0, 1, 1)), ((0, 3), ((1, "out", 1, 1),))),
)


FIRED = [(plant, story, firing) for plant, story in all_stories() for firing in chance_firings(plant, story)]


@functools.cache
def walked_units(plant, story, firing, boiler, hour):
    """The least that must be moved, found by walking through all mains, None where nothing so moved keeps up."""
    terms = hand_terms(plant, story)
    low, high, start = terms["main"]
    reached = {start: 0}
    for at, row in enumerate(firing):
        ways = {sum(row): 0} if at < hour else units_for(terms["caps"][at], row, boiler)
        ends = {}
        for (main, ahead), (made, units) in itertools.product(reached.items(), ways.items()):
            left = min(main + made - terms["draws"][at], high)
            if left >= low:
                ends[left] = min(ahead + units, ends.get(left, ahead + units))
        reached = ends
    return min(reached.values(), default=None)


def units_for(caps, row, boiler):
    """The fewest units by which the other boilers differ from the row, for each sum that they can make."""
    least_for = {0: 0}
    for at, cap in enumerate(caps):
        if at != boiler:
            ways = itertools.product(least_for.items(), range(cap + 1))
            sums = [(made + new, units + abs(new - row[at])) for (made, units), new in ways]
            least_for = {}
            for made, units in sums:
                least_for[made] = min(units, least_for.get(made, units))
    return least_for


def hand_moved_by(plant, story, firing, boiler, hour, other):
    """How much is moved in another firing by the document's words, None where it isn't one so moved."""
    if not keeps_up(plant, story, other) or other[:hour] != firing[:hour]:
        return None
    units = 0
    for at in range(hour, len(firing)):
        for each in range(len(plant[0])):
            if each == boiler and other[at][each] != 0:
                return None
            if each != boiler:
                units += abs(firing[at][each] - other[at][each])
    return units


class Moved(unittest.TestCase):
    def assert_moved(self, day, boiler, hour, units):
        told = moved(*day, boiler, hour)
        self.assertEqual(least_moved(*day, boiler, hour), units, (day, boiler, hour))
        if units is None:
            self.assertIsNone(told, (day, boiler, hour))
        else:
            self.assertIs(is_firing(*day[:2], told), True)
            self.assertEqual(hand_moved_by(*day, boiler, hour, told), units, (day, boiler, hour))
            self.assertEqual(moved_by(*day, boiler, hour, told), units, (day, boiler, hour))

    def test_from_the_first_hour_and_from_the_last(self):
        day = (PAIR, PAIR_STORY, PAIR_FIRING)
        for hour, units in ((0, 6), (1, 4), (2, 2)):
            self.assert_moved(day, 0, hour, units)
        self.assertEqual(moved(*day, 0, 2), ((2, 0), (2, 0), (0, 2)))

    def test_a_boiler_that_made_nothing(self):
        day = (PAIR, PAIR_STORY, PAIR_FIRING)
        for hour in range(3):
            self.assert_moved(day, 1, hour, 0)
            self.assertEqual(moved(*day, 1, hour), PAIR_FIRING)

    def test_a_boiler_that_made_nothing_from_the_hour_on(self):
        day = (PAIR, PAIR_STORY, ((4, 0), (2, 0), (0, 0)))
        self.assert_moved(day, 0, 2, 0)
        self.assertEqual(moved(*day, 0, 2), day[2])
        self.assert_moved(day, 0, 1, 2)
        self.assert_moved(day, 0, 0, 6)

    def test_what_the_main_has_need_not_be_made(self):
        self.assert_moved((ONE, ONE_STORY, ONE_FIRING), 0, 2, 0)
        self.assert_moved((ONE, ONE_STORY, ONE_FIRING), 0, 1, None)
        self.assert_moved((ONE, ONE_STORY, ONE_FIRING), 0, 0, None)
        self.assertEqual(moved(ONE, ONE_STORY, ONE_FIRING, 0, 2), ((3,), (4,), (0,)))

    def test_down_to_the_mark(self):
        plant = (((4, 1), (4, 2)), (), (1, 6, 3))
        self.assert_moved((plant, ((2, 2), ()), ((2, 0), (2, 0))), 0, 0, 2)
        self.assert_moved((plant, ((2, 2), ()), ((2, 0), (2, 0))), 0, 1, 0)

    def test_what_was_blown_off_need_not_be_made(self):
        plant = (((4, 1), (4, 2)), (), (0, 3, 3))
        self.assert_moved((plant, ((4, 4), ()), ((4, 4), (4, 4))), 0, 0, 0)
        self.assert_moved((plant, ((4, 4), ()), ((4, 0), (4, 0))), 0, 0, 5)

    def test_what_is_made_too_early_is_blown_off(self):
        # The main holds 2 alone, so at most 2 of the 6 can be made ahead of the hour 2.
        plant = (((4, 1), (4, 2)), (), (0, 2, 0))
        self.assert_moved((plant, ((0, 0, 6), ()), ((0, 0), (2, 0), (4, 0))), 0, 1, 6)
        self.assert_moved((plant, ((0, 0, 7), ()), ((0, 0), (2, 0), (4, 1))), 0, 1, None)
        self.assert_moved((plant, ((0, 0, 7), ()), ((0, 0), (2, 0), (4, 1))), 0, 2, None)
        self.assert_moved((plant, ((0, 0, 6), ()), ((0, 0), (2, 0), (4, 0))), 0, 2, 4)

    def test_a_main_that_holds_nothing(self):
        plant = (((4, 1), (4, 2)), (), (0, 0, 0))
        self.assert_moved((plant, ((3, 4), ()), ((3, 0), (4, 0))), 0, 0, 7)
        self.assert_moved((plant, ((3, 5), ()), ((3, 0), (4, 1))), 0, 0, None)

    def test_others_out_or_scaled(self):
        for word, units in (("out", None), ("scaled", 4)):
            story = ((2, 2), ((1, word, 0, 1),))
            self.assert_moved((PAIR, story, ((2, 0), (2, 0))), 0, 0, units)

    def test_several_others(self):
        plant = (((9, 1), (2, 1), (2, 1), (2, 1)), (), (0, 0, 0))
        self.assert_moved((plant, ((6,), ()), ((6, 0, 0, 0),)), 0, 0, 6)
        self.assertEqual(moved(plant, ((6,), ()), ((6, 0, 0, 0),), 0, 0), ((0, 2, 2, 2),))
        self.assert_moved((plant, ((6,), ()), ((5, 0, 1, 0),)), 0, 0, 5)
        self.assert_moved((plant, ((7,), ()), ((7, 0, 0, 0),)), 0, 0, None)

    def test_ahead_of_the_hour_all_stays_as_it_was(self):
        self.assert_moved((LATE, LATE_STORY, LATE_FIRING), 0, 0, 4)
        self.assert_moved((LATE, LATE_STORY, LATE_FIRING), 0, 1, 4)
        self.assert_moved((LATE, LATE_STORY, LATE_FIRING), 0, 2, None)
        self.assert_moved((LATE, LATE_STORY, LATE_FIRING), 0, 3, 0)

    def test_at_full_firings(self):
        for plant, story in all_stories():
            full = full_firing(plant, story)
            if keeps_up(plant, story, full):
                for boiler, hour in itertools.product(range(len(plant[0])), range(len(full))):
                    # None makes more than all it can, so either nothing is moved or nothing keeps up.
                    self.assertIn(least_moved(plant, story, full, boiler, hour), (0, None))

    def test_at_all_stories(self):
        seen = []
        for plant, story, firing in FIRED:
            for boiler, hour in itertools.product(range(len(plant[0])), range(len(firing))):
                units = walked_units(plant, story, firing, boiler, hour)
                self.assert_moved((plant, story, firing), boiler, hour, units)
                seen.append(units)
        self.assertGreater(len([units for units in seen if units is None]), 100)
        self.assertGreater(len([units for units in seen if units]), 100)
        self.assertGreater(seen.count(0), 100)

    def test_through_all_firings(self):
        for plant, story in SMALL:
            kept = [each for each in all_firings(plant, story) if keeps_up(plant, story, each)]
            for firing in kept[:: max(len(kept) // 12, 1)]:
                for boiler, hour in itertools.product(range(len(plant[0])), range(len(firing))):
                    ways = [hand_moved_by(plant, story, firing, boiler, hour, each) for each in kept]
                    units = min([each for each in ways if each is not None], default=None)
                    self.assert_moved((plant, story, firing), boiler, hour, units)


class MovedBy(unittest.TestCase):
    day = (PAIR, PAIR_STORY, PAIR_FIRING)

    def test_by_hand(self):
        for hour, other, units in (
            (0, ((0, 2), (0, 2), (0, 2)), 6),
            (0, ((0, 4), (0, 4), (0, 4)), 12),
            (0, ((0, 4), (0, 2), (0, 0)), 6),
            (0, ((0, 3), (0, 2), (0, 2)), 7),
            (1, ((2, 0), (0, 2), (0, 2)), 4),
            (2, ((2, 0), (2, 0), (0, 4)), 4),
        ):
            told = moved_by(*self.day, 0, hour, other)
            self.assertEqual((told, type(told)), (units, int), (hour, other))

    def test_units_less_count_too(self):
        plant = (((4, 1), (4, 2)), (), (0, 6, 6))
        self.assertEqual(moved_by(plant, ((2, 2), ()), ((0, 3), (0, 1)), 0, 0, ((0, 0), (0, 4))), 6)
        self.assertEqual(moved_by(plant, ((2, 2), ()), ((4, 4), (4, 4)), 0, 1, ((4, 4), (0, 0))), 4)

    def test_the_firing_itself(self):
        for hour in range(3):
            self.assertEqual(moved_by(*self.day, 1, hour, PAIR_FIRING), 0)
            self.assertIsNone(moved_by(*self.day, 0, hour, PAIR_FIRING))

    def test_not_so_moved(self):
        for hour, other in (
            (1, ((0, 2), (0, 2), (0, 2))),
            (1, ((2, 1), (0, 2), (0, 2))),
            (2, ((2, 0), (2, 0), (1, 1))),
            (0, ((0, 2), (0, 2), (1, 1))),
            (0, ((0, 2), (0, 2), (0, 1))),
            (0, ((0, 1), (0, 3), (0, 2))),
            (0, ((0, 2), (0, 2), (0, 5))),
            (0, ((0, 2), (0, 2))),
            (0, ((0, 2), (0, 2), (0, 2), (0, 2))),
        ):
            self.assertIsNone(moved_by(*self.day, 0, hour, other), (hour, other))

    def test_things_of_all_sorts(self):
        right = ((0, 2), (0, 2), (0, 2))
        wrong = strange_things() + [as_lists(right), list(right), [right], (right,), {0: right}, "0 2/0 2/0 2"]
        for thing in wrong + [each for each in misshapen(right)]:
            self.assertIsNone(moved_by(*self.day, 0, 0, thing), thing)
        # By == alone truths and the numbers would pass for one another.
        firing = ((1, 1), (4, 0))
        self.assertIsNone(moved_by(PAIR, ((1, 0), ()), firing, 0, 1, ((True, 1), (0, 0))))
        self.assertEqual(moved_by(PAIR, ((1, 0), ()), firing, 0, 1, ((1, 1), (0, 0))), 0)

    def test_through_all_firings(self):
        for plant, story in SMALL:
            firings = all_firings(plant, story)
            kept = [each for each in firings if keeps_up(plant, story, each)]
            for firing, other in itertools.product(kept[:: max(len(kept) // 12, 1)], firings):
                for boiler, hour in itertools.product(range(len(plant[0])), range(len(firing))):
                    units = hand_moved_by(plant, story, firing, boiler, hour, other)
                    self.assertEqual(moved_by(plant, story, firing, boiler, hour, other), units)


class OutsLet(unittest.TestCase):
    def test_by_hand(self):
        self.assertEqual(outs_let(PAIR, PAIR_STORY, PAIR_FIRING, 0), [0, 1, 2])
        self.assertEqual(outs_let(PAIR, PAIR_STORY, PAIR_FIRING, 1), [0, 1, 2])
        self.assertEqual(outs_let(ONE, ONE_STORY, ONE_FIRING, 0), [2])

    def test_none(self):
        plant = (((4, 1),), (), (0, 6, 0))
        self.assertEqual(outs_let(plant, ((2, 2), ()), ((2,), (2,)), 0), [])

    def test_a_later_hour_from_which_on_it_may_not(self):
        self.assertEqual(outs_let(LATE, LATE_STORY, LATE_FIRING, 0), [0, 1, 3])
        self.assertEqual(outs_let(LATE, LATE_STORY, LATE_FIRING, 1), [0, 1, 3])
        story = ((0, 0, 8), ())
        self.assertEqual(outs_let(LATE, story, LATE_FIRING[:3], 0), [0, 1])

    def test_at_all_stories(self):
        for plant, story, firing in FIRED:
            for boiler in range(len(plant[0])):
                told = outs_let(plant, story, firing, boiler)
                hours = range(len(firing))
                due = [at for at in hours if walked_units(plant, story, firing, boiler, at) is not None]
                self.assertEqual((told, type(told)), (due, list))


class Refused(unittest.TestCase):
    calls = (
        (least_moved, ()),
        (moved, ()),
        (moved_by, (None,)),
    )
    low_firing = ((2, 0), (1, 0), (4, 4))

    def test_firings_that_do_not_keep_up(self):
        for plant, story, firing in ((PAIR, PAIR_STORY, self.low_firing), (ONE, ONE_STORY, ((0,), (0,), (0,)))):
            for boiler, hour in ((0, 0), (0, 2), (None, 0), (0, None), (9, 9)):
                for call, rest in self.calls:
                    with self.assertRaises(NoFiring):
                        call(plant, story, firing, boiler, hour, *rest)
                with self.assertRaises(NoFiring):
                    outs_let(plant, story, firing, boiler)

    def test_short_in_the_last_hour_alone(self):
        firing = ((2, 0), (2, 0), (1, 0))
        for call, rest in self.calls:
            with self.assertRaises(NoFiring):
                call(PAIR, PAIR_STORY, firing, 0, 0, *rest)
        with self.assertRaises(NoFiring):
            outs_let(PAIR, PAIR_STORY, firing, 1)

    def test_in_the_order_of_the_arguments(self):
        right = [PAIR, PAIR_STORY, PAIR_FIRING, 1, 2]
        classes = (NoPlant, NoStory, NoFiring, NoBoiler, NoHour)
        for call, rest in self.calls:
            for at, error in enumerate(classes):
                for wrong in (None, True, -1, 3, [], (), "0"):
                    with self.assertRaises(error):
                        call(*right[:at], *[wrong] * (5 - at), *rest)
        for at, error in enumerate(classes[:4]):
            with self.assertRaises(error):
                outs_let(*right[:at], *[2] * (4 - at))

    def test_by_name(self):
        for plant, story, firing in DAYS:
            told = moved(hour=0, boiler=0, firing=firing, story=story, plant=plant)
            self.assertEqual(told, moved(plant, story, firing, 0, 0))

    def test_nothing_handed_in_is_kept_or_changed(self):
        thing = [list(row) for row in PAIR_FIRING]
        self.assertIsNone(moved_by(PAIR, PAIR_STORY, PAIR_FIRING, 1, 0, thing))
        self.assertEqual(thing, [[2, 0], [2, 0], [2, 0]])
        told = outs_let(PAIR, PAIR_STORY, PAIR_FIRING, 0)
        told.reverse()
        self.assertEqual(outs_let(PAIR, PAIR_STORY, PAIR_FIRING, 0), [0, 1, 2])

    def test_a_place_put_wrong(self):
        for path in ((0,), (0, 0), (2, 1)):
            with self.assertRaises(NoFiring):
                moved(PAIR, PAIR_STORY, put(PAIR_FIRING, path, True), 0, 0)


if __name__ == "__main__":
    unittest.main()
