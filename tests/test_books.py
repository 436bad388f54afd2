"""2.3: what is course's list."""

import copy
import unittest

from mainfires.days import books_right, course
from tests.helper import DAYS, ONE, ONE_STORY, as_lists, misshapen, places, put, strange_things, part_at

# Days whose lists bear ones and noughts, have no rows, and end ahead of the last hour.
SMALL = (((1, 1),), (), (0, 1, 1)), ((1, 0), ()), ((1,), (1,))
NONE = ONE, ((20, 0, 0), ()), ((0,), (0,), (0,))
SHORT = ONE, ((1, 20, 0), ()), ((5,), (0,), (5,))
ALL = DAYS + (SMALL, NONE, SHORT)


class Books(unittest.TestCase):
    def assert_right(self, day, thing):
        self.assertIs(books_right(*day, thing), True, thing)

    def assert_wrong(self, day, thing):
        self.assertIs(books_right(*day, thing), False, thing)

    def test_the_days(self):
        self.assertEqual(course(*SMALL), [(1, 1, 0, 1), (1, 0, 1, 1)])
        self.assertEqual(course(*NONE), [])
        self.assertEqual(course(*SHORT), [(5, 1, 0, 9)])

    def test_its_own_list(self):
        for day in ALL:
            self.assert_right(day, course(*day))

    def test_the_same_list_made_anew(self):
        for day in ALL:
            self.assert_right(day, copy.deepcopy(course(*day)))
        self.assert_right(SMALL, [(1, 1, 0, 1), (1, 0, 1, 1)])

    def test_one_number_otherwise(self):
        for day in ALL:
            rows = course(*day)
            for path in places(rows):
                if len(path) == 2:
                    number = part_at(rows, path)
                    for wrong in (number + 1, number - 1, -number - 1, number + 10**30):
                        self.assert_wrong(day, put(rows, path, wrong))

    def test_truths_for_numbers(self):
        rows = course(*SMALL)
        for path in places(rows):
            if len(path) == 2:
                self.assert_wrong(SMALL, put(rows, path, bool(part_at(rows, path))))

    def test_rows_more_or_less_or_twice(self):
        for day in ALL:
            rows = course(*day)
            for more in ((0, 0, 0, 0), None, (), rows, 0):
                self.assert_wrong(day, rows + [more])
                self.assert_wrong(day, [more] + rows)
            for at, row in enumerate(rows):
                self.assert_wrong(day, rows[:at] + rows[at + 1 :])
                self.assert_wrong(day, rows[: at + 1] + rows[at:])
            if rows:
                self.assert_wrong(day, rows + rows)
                self.assert_wrong(day, [])

    def test_rows_in_another_order(self):
        for day in ALL:
            rows = course(*day)
            if rows[::-1] != rows:
                self.assert_wrong(day, rows[::-1])

    def test_parts_of_rows_more_or_less(self):
        for day in ALL:
            rows = course(*day)
            for at, row in enumerate(rows):
                for wrong in ((), row[:-1], row[1:], row + (0,), row + row, row + (None,)):
                    self.assert_wrong(day, put(rows, (at,), wrong))

    def test_a_tuple_of_rows(self):
        for day in ALL:
            self.assert_wrong(day, tuple(course(*day)))

    def test_rows_as_lists(self):
        for day in ALL:
            rows = course(*day)
            for at, row in enumerate(rows):
                self.assert_wrong(day, put(rows, (at,), list(row)))
            if rows:
                self.assert_wrong(day, as_lists(tuple(rows)))

    def test_misshapen_ones(self):
        for day in ALL:
            for thing in misshapen(course(*day)):
                self.assert_wrong(day, thing)

    def test_things_of_all_sorts(self):
        for day in ALL:
            for thing in strange_things() + list(day):
                self.assertIs(books_right(*day, thing), day == NONE and thing == [] and isinstance(thing, list))

    def test_the_list_of_another_firing(self):
        rows = course(ONE, ONE_STORY, ((3,), (4,), (5,)))
        self.assert_wrong((ONE, ONE_STORY, ((4,), (3,), (5,))), rows)


if __name__ == "__main__":
    unittest.main()
