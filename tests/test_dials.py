"""9.1: readings, whether they agree, and which dial reads off."""

import itertools
import random
import unittest

from mainfires.days import course
from mainfires.dials import agree, is_readings, off_dials
from mainfires.errors import NoReadings, NoStart
from tests.helper import DAYS, as_lists, kind_and_value, misshapen, put, strange_things

# One boiler, then the draw, the blown steam, the main; from 5 in the main at first.
RIGHT = ((4, 1, 0, 8), (5, 2, 1, 10), (0, 3, 0, 7))
# Four boilers.
WIDE = ((1, 2, 3, 4, 5, 1, 9), (0, 0, 0, 0, 9, 0, 0), (9, 9, 9, 9, 0, 6, 30))


def raised(readings, dial, hour, units):
    """The readings with so much added to that dial's from the hour on."""
    return tuple(
        row[:dial] + (row[dial] + units,) + row[dial + 1 :] if at >= hour else row for at, row in enumerate(readings)
    )


def hand_agree(readings, start):
    """Whether the readings agree, by the document's words."""
    main = start
    for row in readings:
        *made, drawn, blown, left = row
        if sum(made) - drawn - blown != left - main:
            return False
        main = left
    return True


def hand_off(readings, start, most):
    """The rising list of all ways by which all agree, off no more than most."""
    offs = [off for off in range(-most, most + 1) if off != 0]
    ways = itertools.product(range(len(readings[0])), range(len(readings)), offs)
    return [way for way in ways if hand_agree(raised(readings, way[0], way[1], -way[2]), start)]


def chance_readings(many):
    """So many readings with their start that agree but for some dials that read off; the same at each call."""
    chance = random.Random(5)
    found = []
    while len(found) < many:
        start = main = chance.choice((0, 40, chance.randint(0, 40)))
        boilers = chance.randint(1, 4)
        rows = []
        for hour in range(chance.randint(1, 8)):
            made = tuple(chance.randint(0, 9) for boiler in range(boilers))
            drawn, blown = chance.randint(0, 20), chance.randint(0, 4)
            main += sum(made) - drawn - blown
            rows.append(made + (drawn, blown, main))
        readings = tuple(rows)
        for turn in range(chance.choice((0, 1, 1, 1, 2))):
            dial, hour = chance.randrange(boilers + 3), chance.randrange(len(rows))
            readings = raised(readings, dial, hour, chance.randint(-5, 5))
        if all(-99 <= part <= 99 for row in readings for part in row):
            found.append((readings, start))
    return found


class Readings(unittest.TestCase):
    def test_lengths_at_their_bounds(self):
        for rows, dials in itertools.product((1, 2, 7, 8), (4, 5, 6, 7)):
            self.assertIs(is_readings(((0,) * dials,) * rows), True)
        for rows, dials in ((0, 4), (9, 4), (9, 7), (1, 3), (1, 8), (8, 3), (8, 8), (1, 0), (3000, 4)):
            self.assertIs(is_readings(((0,) * dials,) * rows), False, (rows, dials))

    def test_numbers_at_their_bounds(self):
        for part, right in ((-99, True), (99, True), (-100, False), (100, False), (0, True), (10**30, False)):
            for path in ((0, 0), (0, 3), (2, 0), (2, 3), (1, 1)):
                self.assertIs(is_readings(put(RIGHT, path, part)), right, (path, part))

    def test_rows_of_one_length(self):
        for row in ((1, 2, 3), (1, 2, 3, 4, 5), (), (1,)):
            for at in range(3):
                self.assertIs(is_readings(put(RIGHT, (at,), row)), False)

    def test_wrong_kinds(self):
        for part in (None, True, False, "1", (1,), [1], {}):
            for path in ((0, 0), (2, 3), (1,), (0,), ()):
                self.assertIs(is_readings(put(RIGHT, path, part)), False, (path, part))
        for thing in (list(RIGHT), as_lists(RIGHT), (list(RIGHT[0]),), [RIGHT], (RIGHT,), {0: RIGHT[0]}, "4 1 0 8"):
            self.assertIs(is_readings(thing), False, thing)

    def test_things_of_all_sorts(self):
        for thing in strange_things():
            self.assertIs(is_readings(thing), False, thing)
        for thing in misshapen(RIGHT):
            numbers = [part for row in thing for part in row] if kind_and_value(thing).count("(") == 4 else [None]
            self.assertIs(is_readings(thing), all(type(part) is int for part in numbers), thing)


class Agree(unittest.TestCase):
    def test_by_hand(self):
        self.assertIs(agree(RIGHT, 5), True)
        self.assertIs(agree(WIDE, 5), True)
        self.assertIs(agree(((0, 0, 0, 0),), 0), True)
        self.assertIs(agree(((0, 0, 0, 40),), 40), True)
        self.assertIs(agree(((-99, -99, 0, 40),), 40), True)
        self.assertIs(agree(((99, 0, 0, 99),), 0), True)

    def test_one_number_off(self):
        for readings in (RIGHT, WIDE):
            for start in range(41):
                self.assertIs(agree(readings, start), start == 5)
            for hour, dial in itertools.product(range(3), range(len(readings[0]))):
                for units in (-1, 1):
                    self.assertIs(agree(put(readings, (hour, dial), readings[hour][dial] + units), 5), False)

    def test_gaps_that_make_up_for_one_another(self):
        # In the row 0 one more, in the row 1 one less: the last main is right.
        self.assertIs(agree(((5, 1, 0, 8), (4, 2, 1, 10), (0, 3, 0, 7)), 5), False)

    def test_what_course_tells_agrees(self):
        for plant, story, firing in DAYS:
            rows = course(plant, story, firing)
            readings = tuple(made + row[1:] for made, row in zip(firing, rows))
            self.assertIs(agree(readings, plant[2][2]), True)
            self.assertEqual(off_dials(readings, plant[2][2]), [])

    def test_at_chance_readings(self):
        told = [agree(readings, start) for readings, start in chance_readings(200)]
        self.assertEqual(told, [hand_agree(readings, start) for readings, start in chance_readings(200)])
        self.assertEqual(set(told), {True, False})


class OffDials(unittest.TestCase):
    def test_none_where_they_agree(self):
        self.assertEqual(off_dials(RIGHT, 5), [])
        self.assertEqual(off_dials(WIDE, 5), [])
        self.assertEqual(off_dials(((0, 0, 0, 0),), 0), [])

    def test_from_the_first_hour_on(self):
        for off in (-3, 3):
            due = [(0, 0, off), (1, 0, -off), (2, 0, -off)]
            self.assertEqual(off_dials(raised(RIGHT, 0, 0, off), 5), due)
            self.assertEqual(off_dials(raised(RIGHT, 1, 0, -off), 5), due)
            self.assertEqual(off_dials(raised(RIGHT, 2, 0, -off), 5), due)

    def test_a_boiler_among_several(self):
        due = [(boiler, 1, 2) for boiler in range(4)] + [(4, 1, -2), (5, 1, -2)]
        for boiler in range(4):
            self.assertEqual(off_dials(raised(WIDE, boiler, 1, 2), 5), due)

    def test_the_main_by_one_way(self):
        for hour, off in itertools.product((0, 1), (-4, 4)):
            self.assertEqual(off_dials(raised(RIGHT, 3, hour, off), 5), [(3, hour, off)])

    def test_the_last_hour_by_all_ways(self):
        due = [(0, 2, 1), (1, 2, -1), (2, 2, -1), (3, 2, -1)]
        self.assertEqual(off_dials(raised(RIGHT, 0, 2, 1), 5), due)
        self.assertEqual(off_dials(raised(RIGHT, 3, 2, -1), 5), due)

    def test_one_row(self):
        self.assertEqual(off_dials(((4, 1, 0, 9),), 5), [(0, 0, -1), (1, 0, 1), (2, 0, 1), (3, 0, 1)])
        self.assertEqual(off_dials(((1, 1, 1, 1, 1, 1, 0),), 0), [(dial, 0, 2) for dial in range(4)] + [
            (4, 0, -2), (5, 0, -2), (6, 0, -2)
        ])  # fmt: skip

    def test_eight_rows(self):
        readings = ((2, 1, 1, 7),) * 8
        self.assertEqual(off_dials(readings, 7), [])
        for hour in range(7):
            self.assertEqual(off_dials(raised(readings, 1, hour, 9), 7), [(0, hour, -9), (1, hour, 9), (2, hour, 9)])
            self.assertEqual(off_dials(raised(readings, 3, hour, 9), 7), [(3, hour, 9)])
        self.assertEqual(len(off_dials(raised(readings, 3, 7, 9), 7)), 4)

    def test_a_wrong_start_is_the_main_that_reads_off(self):
        self.assertEqual(off_dials(RIGHT, 0), [(3, 0, 5)])
        self.assertEqual(off_dials(RIGHT, 40), [(3, 0, -35)])

    def test_none_puts_right(self):
        self.assertEqual(off_dials(((5, 1, 0, 8), (4, 2, 1, 10), (0, 3, 0, 7)), 5), [])
        # One reading off in the middle hour alone, which is put right from the next hour on by another number.
        self.assertEqual(off_dials(put(RIGHT, (0, 0), 5), 5), [(3, 0, -1)])
        self.assertEqual(off_dials(((6, 1, 0, 8), (6, 2, 1, 10), (0, 3, 0, 7)), 5), [])
        self.assertEqual(off_dials(((5, 1, 0, 8), (5, 2, 1, 10), (1, 3, 0, 7)), 5), [])

    def test_beyond_what_a_dial_reads(self):
        readings = ((99, 99, 99, 99, -99, -99, -99),)
        due = 99 * 6 + 99
        self.assertEqual(off_dials(readings, 0), [(dial, 0, due) for dial in range(4)] + [
            (4, 0, -due), (5, 0, -due), (6, 0, -due)
        ])  # fmt: skip
        self.assertEqual(off_dials(((-99, 99, 99, 99),), 40)[0], (0, 0, -356))

    def test_at_chance_readings(self):
        many = []
        for readings, start in chance_readings(150):
            told = off_dials(readings, start)
            self.assertEqual((told, type(told)), (hand_off(readings, start, 12), list), (readings, start))
            self.assertEqual(told, sorted(told))
            many.append(len(told))
        self.assertLessEqual({0, 1, 3, 4}, set(many))

    def test_each_puts_right(self):
        for readings, start in chance_readings(200):
            for dial, hour, off in off_dials(readings, start):
                self.assertNotEqual(off, 0)
                self.assertTrue(hand_agree(raised(readings, dial, hour, -off), start))

    def test_told_lists_are_new(self):
        readings = raised(RIGHT, 0, 0, 1)
        told = off_dials(readings, 5)
        kept = list(told)
        told.clear()
        self.assertEqual(off_dials(readings, 5), kept)


class Refused(unittest.TestCase):
    def test_no_readings(self):
        for call in (agree, off_dials):
            for thing in strange_things() + [as_lists(RIGHT), RIGHT[0], put(RIGHT, (0, 0), 100), put(RIGHT, (2,), ())]:
                for start in (5, -1, None):
                    with self.assertRaises(NoReadings):
                        call(thing, start)

    def test_start_at_its_bounds(self):
        for call in (agree, off_dials):
            for start in (0, 40):
                call(RIGHT, start)
            for start in (-1, 41, 10**30, True, False, None, "5", (), (5,), [5], {}):
                with self.assertRaises(NoStart):
                    call(RIGHT, start)

    def test_by_name(self):
        self.assertIs(is_readings(thing=RIGHT), True)
        self.assertIs(agree(start=5, readings=RIGHT), True)
        self.assertEqual(off_dials(start=0, readings=RIGHT), [(3, 0, 5)])


if __name__ == "__main__":
    unittest.main()
