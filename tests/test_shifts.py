"""9.2: the coal of shifts, and where a coal book is more or less."""

import itertools
import unittest

from mainfires.days import coal_of
from mainfires.errors import NoBook, NoFiring, NoPlant, NoShifts, NoStory
from mainfires.shifts import lacking, shift_coal
from tests.helper import DAYS, TWO, TWO_FIRING, TWO_STORY, all_sets, all_stories, as_lists, chance_firings
from tests.helper import misshapen, strange_things

# The coal of TWO's hours: 6 * 2 + 3 * 5, 3 * 2, 2 * 2, 6 * 2.
TWO_COAL = (27, 6, 4, 12)
DAY = (TWO, TWO_STORY, TWO_FIRING)


def all_shifts(hours):
    """All shifts of so many hours."""
    return [(0,) + rest for rest in all_sets(hours) if 0 not in rest]


def hand_coal(plant, firing, shifts):
    """The coal of each shift, hour by hour."""
    coals = [0] * len(shifts)
    for hour, row in enumerate(firing):
        shift = max(at for at, first in enumerate(shifts) if first <= hour)
        for boiler, made in enumerate(row):
            coals[shift] += made * plant[0][boiler][1]
    return tuple(coals)


class ShiftCoal(unittest.TestCase):
    def test_one_shift(self):
        self.assertEqual(shift_coal(*DAY, (0,)), (49,))
        for day in DAYS:
            self.assertEqual(shift_coal(*day, (0,)), (coal_of(*day),))

    def test_one_for_each_hour(self):
        self.assertEqual(shift_coal(*DAY, (0, 1, 2, 3)), TWO_COAL)

    def test_some_hours_each(self):
        for shifts, due in (
            ((0, 1), (27, 22)),
            ((0, 2), (33, 16)),
            ((0, 3), (37, 12)),
            ((0, 1, 3), (27, 10, 12)),
            ((0, 2, 3), (33, 4, 12)),
        ):
            told = shift_coal(*DAY, shifts)
            self.assertEqual((told, type(told)), (due, tuple), shifts)

    def test_one_hour(self):
        self.assertEqual(shift_coal((((5, 2),), (), (0, 0, 0)), ((0,), ()), ((4,),), (0,)), (8,))

    def test_nothing_burnt(self):
        self.assertEqual(shift_coal(TWO, TWO_STORY, ((0, 0),) * 4, (0, 2)), (0, 0))

    def test_at_all_shifts(self):
        for plant, story in all_stories()[::4]:
            for firing in chance_firings(plant, story)[-2:]:
                for shifts in all_shifts(len(firing)):
                    self.assertEqual(shift_coal(plant, story, firing, shifts), hand_coal(plant, firing, shifts))


class Lacking(unittest.TestCase):
    def test_the_right_book(self):
        self.assertEqual(lacking(*DAY, (0, 2), (33, 16)), [])
        self.assertEqual(lacking(*DAY, (0,), (49,)), [])

    def test_more_and_less(self):
        for book, due in (
            ((34, 16), [(0, 1)]),
            ((33, 15), [(1, -1)]),
            ((0, 100), [(0, -33), (1, 84)]),
            ((0, 0), [(0, -33), (1, -16)]),
            ((10**30, 16), [(0, 10**30 - 33)]),
        ):
            told = lacking(*DAY, (0, 2), book)
            self.assertEqual((told, type(told)), (due, list), book)

    def test_one_for_each_hour(self):
        self.assertEqual(lacking(*DAY, (0, 1, 2, 3), (28, 6, 3, 12)), [(0, 1), (2, -1)])
        self.assertEqual(lacking(*DAY, (0, 1, 2, 3), TWO_COAL), [])

    def test_at_all_shifts(self):
        for day in DAYS:
            for shifts in all_shifts(len(day[2])):
                coals = hand_coal(day[0], day[2], shifts)
                self.assertEqual(lacking(*day, shifts, coals), [])
                for shift, by in itertools.product(range(len(shifts)), (-1, 3)):
                    if coals[shift] + by >= 0:
                        book = coals[:shift] + (coals[shift] + by,) + coals[shift + 1 :]
                        self.assertEqual(lacking(*day, shifts, book), [(shift, by)])

    def test_told_lists_are_new(self):
        told = lacking(*DAY, (0,), (50,))
        told.clear()
        self.assertEqual(lacking(*DAY, (0,), (50,)), [(0, 1)])


class Refused(unittest.TestCase):
    def test_no_shifts(self):
        for shifts in (
            (), (1,), (3,), (1, 2), (-1,), (-1, 0), (0, 0), (0, 2, 2), (0, 3, 2), (0, 2, 1), (0, 1, 0), (0, 4),
            (0, 1, 2, 3, 4), (0, 8), (0, -1), (False,), (0, True), [0], [0, 1], (0, None), (0, "1"), ((0,),), ((0, 1),),
            0, None, True, "0", {0: 0}, (0, 10**30),
        ):  # fmt: skip
            for book in ((1,), None):
                with self.assertRaises(NoShifts):
                    lacking(*DAY, shifts, book)
            with self.assertRaises(NoShifts):
                shift_coal(*DAY, shifts)

    def test_things_of_all_sorts_for_shifts(self):
        right = [repr(each) for each in all_shifts(4)]
        for shifts in strange_things() + misshapen((0, 2)):
            if repr(shifts) not in right:
                with self.assertRaises(NoShifts):
                    shift_coal(*DAY, shifts)

    def test_no_book(self):
        for book in (
            (), (33,), (33, 16, 0), (33, 16, 0, 0), (-1, 16), (33, -1), (True, 16), (33, False), (33, None), (33, "16"),
            [33, 16], (33, (16,)), 33, None, "33 16", {0: 33, 1: 16}, ((33, 16),),
        ):  # fmt: skip
            with self.assertRaises(NoBook):
                lacking(*DAY, (0, 2), book)

    def test_things_of_all_sorts_for_a_book(self):
        for book in strange_things() + [as_lists((33, 16))]:
            if repr(book) != "(0, 0)":
                with self.assertRaises(NoBook):
                    lacking(*DAY, (0, 2), book)

    def test_in_the_order_of_the_arguments(self):
        right = [*DAY, (0, 2)]
        for at, error in enumerate((NoPlant, NoStory, NoFiring, NoShifts, NoBook)):
            with self.assertRaises(error):
                lacking(*right[:at], *[None] * (5 - at))
            if at < 4:
                with self.assertRaises(error):
                    shift_coal(*right[:at], *[None] * (4 - at))

    def test_firings_that_do_not_keep_up_are_let(self):
        self.assertEqual(shift_coal(TWO, TWO_STORY, ((0, 0), (0, 0), (0, 0), (1, 0)), (0, 3)), (0, 2))

    def test_by_name(self):
        plant, story, firing = DAY
        self.assertEqual(shift_coal(shifts=(0,), firing=firing, story=story, plant=plant), (49,))
        self.assertEqual(lacking(book=(48,), shifts=(0,), firing=firing, story=story, plant=plant), [(0, -1)])


if __name__ == "__main__":
    unittest.main()
