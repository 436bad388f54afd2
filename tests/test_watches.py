"""10.2: watches, their deeds, and the undoing of these."""

import itertools
import random
import unittest

from mainfires.days import course
from mainfires.errors import MainError, NoAmount, NoBoiler, NoDeed, NoFiring, NoHour, NoPlant, NoStory
from mainfires.kinds import caps_of, full_firing, is_firing
from mainfires.least import cheapest
from mainfires.watches import Watch
from tests.helper import DAYS, ONE, ONE_STORY, SHORT, SHORT_STORY, TWO, TWO_FIRING, TWO_STORY, all_stories, as_lists
from tests.helper import misshapen, put, strange_things

NOTHING = ((0, 0),) * 4


def last_main(plant, story, firing):
    """The last main of course's list, None where that is empty."""
    rows = course(plant, story, firing)
    return rows[-1][3] if rows else None


class Deeds(unittest.TestCase):
    def test_at_first_nothing_is_made(self):
        self.assertEqual(Watch(TWO, TWO_STORY).kept_firing(), NOTHING)
        self.assertEqual(Watch(ONE, ((0,), ())).kept_firing(), ((0,),))
        for plant, story in all_stories():
            kept = Watch(plant, story).kept_firing()
            self.assertIs(is_firing(plant, story, kept), True)
            self.assertEqual(kept, tuple((0,) * len(plant[0]) for hour in story[0]))

    def test_stoke(self):
        watch = Watch(TWO, TWO_STORY)
        # 6 in the main at first; 5, 2, 7 and 2 are drawn, the mark is 2.
        self.assertIsNone(watch.stoke(1, 0, 3))
        self.assertEqual(watch.kept_firing(), ((0, 0), (3, 0), (0, 0), (0, 0)))
        self.assertEqual(watch.stoke(0, 1, 3), 5)
        self.assertEqual(watch.kept_firing(), ((0, 3), (3, 0), (0, 0), (0, 0)))
        self.assertEqual(watch.stoke(0, 0, 6), 2)
        self.assertEqual(watch.stoke(3, 0, 1), 3)
        self.assertEqual(watch.kept_firing(), ((6, 3), (3, 0), (0, 0), (1, 0)))
        self.assertEqual(watch.stoke(0, 0, 0), 5)
        self.assertEqual(watch.kept_firing(), ((0, 3), (3, 0), (0, 0), (1, 0)))

    def test_what_stoke_tells(self):
        for plant, story in all_stories():
            watch = Watch(plant, story)
            caps = caps_of(plant, story)
            for hour, boiler in itertools.product(range(len(caps)), range(len(plant[0]))):
                told = watch.stoke(hour, boiler, caps[hour][boiler])
                self.assertEqual(told, last_main(plant, story, watch.kept_firing()))
            self.assertEqual(watch.kept_firing(), full_firing(plant, story))

    def test_stoke_tells_none_where_the_first_hour_falls_short(self):
        plant = (((2, 1),), (), (1, 5, 1))
        watch = Watch(plant, ((2, 0), ()))
        self.assertIsNone(watch.stoke(0, 0, 1))
        self.assertEqual(watch.stoke(0, 0, 2), 1)
        self.assertIsNone(watch.stoke(0, 0, 0))

    def test_bank(self):
        watch = Watch(TWO, TWO_STORY)
        watch.take_over(TWO_FIRING)
        self.assertIsNone(watch.bank(0))
        self.assertEqual(watch.kept_firing(), ((0, 0),) + TWO_FIRING[1:])
        self.assertIsNone(watch.bank(3))
        self.assertEqual(watch.kept_firing(), ((0, 0), (3, 0), (2, 0), (0, 0)))

    def test_take_over(self):
        watch = Watch(TWO, TWO_STORY)
        for firing in (TWO_FIRING, full_firing(TWO, TWO_STORY), NOTHING, cheapest(TWO, TWO_STORY)[2]):
            self.assertIsNone(watch.take_over(firing))
            self.assertEqual(watch.kept_firing(), firing)

    def test_firings_that_do_not_keep_up_are_let(self):
        watch = Watch(SHORT, SHORT_STORY)
        watch.take_over(((1,), (0,), (2,)))
        self.assertEqual(watch.kept_firing(), ((1,), (0,), (2,)))


class Undo(unittest.TestCase):
    def test_each_deed_and_its_undoing(self):
        watch = Watch(TWO, TWO_STORY)
        watch.take_over(TWO_FIRING)
        for deed in (
            lambda: watch.stoke(1, 1, 2),
            lambda: watch.bank(0),
            lambda: watch.take_over(NOTHING),
        ):
            deed()
            self.assertNotEqual(watch.kept_firing(), TWO_FIRING)
            self.assertIsNone(watch.undo())
            self.assertEqual(watch.kept_firing(), TWO_FIRING)

    def test_deeds_that_change_nothing_are_deeds_too(self):
        watch = Watch(TWO, TWO_STORY)
        watch.take_over(TWO_FIRING)
        watch.take_over(TWO_FIRING)
        watch.stoke(0, 0, 6)
        watch.bank(1)
        watch.bank(1)
        watch.undo()
        self.assertEqual(watch.kept_firing()[1], (0, 0))
        for turn in range(3):
            watch.undo()
            self.assertEqual(watch.kept_firing(), TWO_FIRING)
        watch.undo()
        self.assertEqual(watch.kept_firing(), NOTHING)
        with self.assertRaises(NoDeed):
            watch.undo()

    def test_several_one_after_another(self):
        watch = Watch(TWO, TWO_STORY)
        kept = []
        for amount in range(1, 7):
            kept.append(watch.kept_firing())
            watch.stoke(0, 0, amount)
        for firing in kept[::-1]:
            watch.undo()
            self.assertEqual(watch.kept_firing(), firing)
        with self.assertRaises(NoDeed):
            watch.undo()

    def test_none_stands(self):
        watch = Watch(TWO, TWO_STORY)
        for turn in range(2):
            with self.assertRaises(NoDeed):
                watch.undo()
        watch.stoke(0, 0, 1)
        watch.undo()
        for turn in range(2):
            with self.assertRaises(NoDeed):
                watch.undo()
        self.assertEqual(watch.kept_firing(), NOTHING)
        self.assertEqual(watch.stoke(0, 0, 2), 3)

    def test_an_undone_deed_stands_no_more(self):
        watch = Watch(TWO, TWO_STORY)
        watch.stoke(0, 0, 1)
        watch.stoke(0, 0, 2)
        watch.undo()
        watch.stoke(0, 1, 3)
        self.assertEqual(watch.kept_firing()[0], (1, 3))
        watch.undo()
        self.assertEqual(watch.kept_firing()[0], (1, 0))
        watch.undo()
        self.assertEqual(watch.kept_firing(), NOTHING)

    def test_many_deeds(self):
        watch = Watch(ONE, ONE_STORY)
        for turn in range(2000):
            watch.stoke(turn % 3, 0, turn % 6)
        for turn in range(2000):
            watch.undo()
        self.assertEqual(watch.kept_firing(), ((0,), (0,), (0,)))
        with self.assertRaises(NoDeed):
            watch.undo()


class Refused(unittest.TestCase):
    def assert_refused(self, error, watch, deed):
        """Refused with just that class, nothing changed, no deed more."""
        ahead = watch.kept_firing()
        try:
            deed()
        except MainError as told:
            self.assertIs(type(told), error)
        else:
            self.fail(error)
        self.assertEqual(watch.kept_firing(), ahead)

    def watch(self):
        watch = Watch(TWO, TWO_STORY)
        watch.stoke(0, 0, 4)
        return watch

    def assert_one_deed_stands(self, watch):
        self.assertEqual(watch.kept_firing(), ((4, 0),) + NOTHING[1:])
        watch.undo()
        self.assertEqual(watch.kept_firing(), NOTHING)
        self.assert_refused(NoDeed, watch, watch.undo)

    def test_no_plant_and_no_story(self):
        for wrong in strange_things():
            with self.assertRaises(NoPlant):
                Watch(wrong, wrong)
            with self.assertRaises(NoPlant):
                Watch(wrong, TWO_STORY)
            with self.assertRaises(NoStory):
                Watch(TWO, wrong)
        with self.assertRaises(NoStory):
            Watch(ONE, TWO_STORY)
        with self.assertRaises(NoPlant):
            Watch(as_lists(TWO), TWO_STORY)

    def test_no_hour(self):
        watch = self.watch()
        for hour in (-1, 4, 99, True, False, None, "0", (), (0,), [0], {}, 10**30):
            self.assert_refused(NoHour, watch, lambda: watch.bank(hour))
            self.assert_refused(NoHour, watch, lambda: watch.stoke(hour, 0, 0))
            self.assert_refused(NoHour, watch, lambda: watch.stoke(hour, None, None))
        self.assert_one_deed_stands(watch)

    def test_no_boiler(self):
        watch = self.watch()
        for boiler in (-1, 2, 99, True, False, None, "0", (), (0,), [0], {}, 10**30):
            self.assert_refused(NoBoiler, watch, lambda: watch.stoke(0, boiler, 0))
            self.assert_refused(NoBoiler, watch, lambda: watch.stoke(0, boiler, None))
        self.assert_one_deed_stands(watch)

    def test_no_amount(self):
        watch = self.watch()
        for amount in (-1, 7, 99, True, False, None, "0", (), (0,), [0], {}, 10**30):
            self.assert_refused(NoAmount, watch, lambda: watch.stoke(0, 0, amount))
        self.assert_one_deed_stands(watch)

    def test_amounts_at_what_can_be_made_then(self):
        caps = caps_of(TWO, TWO_STORY)
        watch = Watch(TWO, TWO_STORY)
        for hour, boiler in itertools.product(range(4), range(2)):
            most = caps[hour][boiler]
            self.assert_refused(NoAmount, watch, lambda: watch.stoke(hour, boiler, most + 1))
            watch.stoke(hour, boiler, most)
            self.assertEqual(watch.kept_firing()[hour][boiler], most)
            watch.stoke(hour, boiler, 0)

    def test_no_firing(self):
        watch = self.watch()
        wrong = [as_lists(TWO_FIRING), TWO_FIRING[1:], TWO_FIRING + ((0, 0),), put(TWO_FIRING, (2, 1), 1), ((1,),) * 4]
        for firing in strange_things() + misshapen(TWO_FIRING) + wrong:
            self.assert_refused(NoFiring, watch, lambda: watch.take_over(firing))
        self.assert_one_deed_stands(watch)

    def test_a_list_that_is_refused_stays_as_it_was(self):
        watch = self.watch()
        thing = as_lists(TWO_FIRING)
        self.assert_refused(NoFiring, watch, lambda: watch.take_over(thing))
        self.assertEqual(thing, as_lists(TWO_FIRING))


class Apart(unittest.TestCase):
    def test_two_watches_of_one_story(self):
        one, other = Watch(TWO, TWO_STORY), Watch(TWO, TWO_STORY)
        one.stoke(0, 0, 4)
        self.assertEqual(other.kept_firing(), NOTHING)
        with self.assertRaises(NoDeed):
            other.undo()
        other.take_over(TWO_FIRING)
        other.bank(0)
        self.assertEqual(one.kept_firing(), ((4, 0),) + NOTHING[1:])
        one.undo()
        self.assertEqual(other.kept_firing(), ((0, 0),) + TWO_FIRING[1:])
        other.undo()
        self.assertEqual(other.kept_firing(), TWO_FIRING)

    def test_a_firing_told_by_one_may_be_taken_over_by_another(self):
        one, other = Watch(TWO, TWO_STORY), Watch(TWO, TWO_STORY)
        one.stoke(0, 0, 4)
        other.take_over(one.kept_firing())
        one.stoke(0, 0, 5)
        self.assertEqual(other.kept_firing(), ((4, 0),) + NOTHING[1:])

    def test_questions_change_nothing(self):
        watch = Watch(TWO, TWO_STORY)
        watch.stoke(0, 0, 4)
        for turn in range(3):
            self.assertEqual(watch.kept_firing(), ((4, 0),) + NOTHING[1:])
        watch.undo()
        with self.assertRaises(NoDeed):
            watch.undo()

    def test_by_name(self):
        for plant, story, firing in DAYS:
            watch = Watch(story=story, plant=plant)
            watch.take_over(firing=firing)
            self.assertEqual(watch.kept_firing(), firing)
            watch.bank(hour=0)
            self.assertEqual(sum(watch.kept_firing()[0]), 0)
            told = watch.stoke(amount=1, boiler=len(plant[0]) - 1, hour=0)
            self.assertEqual(watch.kept_firing()[0][-1], 1)
            self.assertEqual(told, last_main(plant, story, watch.kept_firing()))

    def test_by_chance(self):
        chance = random.Random(3)
        for plant, story in all_stories()[::3]:
            watch = Watch(plant, story)
            caps = caps_of(plant, story)
            stack = [tuple((0,) * len(row) for row in caps)]
            for turn in range(30):
                hour, boiler = chance.randrange(len(caps)), chance.randrange(len(caps[0]))
                deed = chance.choice(("stoke", "stoke", "bank", "take_over", "undo", "undo"))
                if deed == "stoke":
                    amount = chance.randint(0, caps[hour][boiler])
                    stack.append(put(stack[-1], (hour, boiler), amount))
                    self.assertEqual(watch.stoke(hour, boiler, amount), last_main(plant, story, stack[-1]))
                elif deed == "bank":
                    stack.append(put(stack[-1], (hour,), (0,) * len(caps[0])))
                    watch.bank(hour)
                elif deed == "take_over":
                    stack.append(tuple(tuple(chance.randint(0, cap) for cap in row) for row in caps))
                    watch.take_over(stack[-1])
                elif len(stack) == 1:
                    with self.assertRaises(NoDeed):
                        watch.undo()
                else:
                    stack.pop()
                    watch.undo()
                self.assertEqual(watch.kept_firing(), stack[-1])


if __name__ == "__main__":
    unittest.main()
