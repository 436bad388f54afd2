"""0.2: nothing that is handed in or told is tied to any other answer."""

import copy
import itertools
import unittest

from mainfires.days import banked, books_right, course
from mainfires.dials import off_dials
from mainfires.errors import MainError
from mainfires.kinds import caps_of, is_firing, is_plant, is_story
from mainfires.least import cheapest, cheapest_holds, floor_of, prices_hold
from mainfires.outs import moved, moved_by, outs_let
from mainfires.sets import fewest, fewest_holds
from mainfires.shifts import lacking, shift_coal
from mainfires.stretches import stretch_holds, stretch_of
from mainfires.texts import firing_read, firing_text
from mainfires.water import feeds, feeds_holds, is_feeding, water_at
from tests.helper import CALLS, DAYS, REFUSALS, SHORT, SHORT_STORY, as_lists, kind_and_value, misshapen, right_things
from tests.helper import strange_things


# The functions that tell lists.
LISTED = [(call, names) for call, names in CALLS if call in (course, banked, outs_let, water_at, off_dials, lacking)]


def handed_in(day, thing):
    return dict(right_things(day), thing=thing)


def answer(call, arguments):
    """What is told, or the class of what it is refused with."""
    try:
        return call(*arguments)
    except MainError as told:
        return type(told)


class Calm(unittest.TestCase):
    def things(self, day):
        rest = right_things(day)
        papers = [cheapest(*day[:2]), fewest(*day[:2]), feeds(*day, rest["tanks"], rest["pump"]), ("dry", 0)]
        told = papers + [moved(*day, rest["boiler"], rest["hour"]), rest["feeding"], rest["readings"]]
        lists = [as_lists(part) for part in list(day) + told]
        return strange_things() + told + lists + [course(*day)] + misshapen(course(*day))

    def test_what_is_handed_in_stays_as_it_was(self):
        for day in DAYS:
            for call, names in CALLS:
                for thing in self.things(day) if "thing" in names else [None]:
                    arguments = [handed_in(day, thing)[name] for name in names]
                    ahead = kind_and_value(arguments)
                    answer(call, arguments)
                    self.assertEqual(kind_and_value(arguments), ahead)

    def test_what_is_refused_stays_as_it_was(self):
        for day in DAYS:
            for call, names in CALLS:
                for at, name in enumerate(names):
                    if name in REFUSALS:
                        arguments = [handed_in(day, None)[each] for each in names]
                        arguments[at] = as_lists(arguments[at])
                        ahead = copy.deepcopy(arguments)
                        answer(call, arguments)
                        self.assertEqual(kind_and_value(arguments), kind_and_value(ahead))

    def test_a_told_list_that_is_changed_changes_no_later_answer(self):
        for day in DAYS:
            for call, names in LISTED:
                arguments = [right_things(day)[name] for name in names]
                told = call(*arguments)
                kept = list(told)
                told.append((9, 9))
                self.assertEqual(call(*arguments), kept)
                told.clear()
                self.assertEqual(call(*arguments), kept)
                told = call(*arguments)
                told[:] = told[::-1]
                self.assertEqual(call(*arguments), kept)

    def test_each_told_list_is_new(self):
        for day in DAYS:
            for call, names in LISTED:
                arguments = [right_things(day)[name] for name in names]
                self.assertIs(type(call(*arguments)), list)
                self.assertIsNot(call(*arguments), call(*arguments))

    def test_a_handed_in_list_that_is_changed_changes_no_later_answer(self):
        for day in DAYS:
            book = course(*day)
            self.assertIs(books_right(*day, book), True)
            row = book.pop()
            self.assertIs(books_right(*day, book), False)
            book.append(row)
            self.assertIs(books_right(*day, book), True)
            self.assertEqual(course(*day), book)

    def test_a_list_that_becomes_right_is_asked_anew(self):
        for call, day in ((is_plant, ()), (is_story, DAYS[0][:1]), (is_firing, DAYS[0][:2])):
            thing = []
            self.assertIs(call(*day, thing), False)
            self.assertIs(call(*day, DAYS[0][len(day)]), True)
            self.assertIs(call(*day, thing), False)

    def test_the_same_question_has_the_same_answer(self):
        calls = [(call, day, names) for day in DAYS for call, names in CALLS]
        first = [answer(call, [handed_in(day, course(*day))[name] for name in names]) for call, day, names in calls]
        kept = copy.deepcopy(first)
        for turn in range(2):
            for at in sorted(range(len(calls)), reverse=turn == 0):
                call, day, names = calls[at]
                told = answer(call, [handed_in(day, course(*day))[name] for name in names])
                self.assertEqual(kind_and_value(told), kind_and_value(kept[at]))
                for wrong in (None, [], ()):
                    answer(call, [wrong] * len(names))

    def test_truths_are_not_mixed_up_with_numbers_asked_ahead(self):
        # 1 and True are one key of a dict, so an answer kept by its question would tell the wrong one.
        right = (((1, 1),), ((1, 1, 1),), (0, 1, 1))
        wrong = (((True, 1),), ((1, 1, 1),), (0, 1, 1))
        for turn in range(2):
            self.assertIs(is_plant(right), True)
            self.assertIs(is_plant(wrong), False)

    def test_arguments_by_their_names_in_any_order(self):
        for day in DAYS:
            things = handed_in(day, course(*day))
            for call, names in CALLS:
                by_place = call(*[things[name] for name in names])
                for order in itertools.permutations(names):
                    self.assertEqual(call(**{name: things[name] for name in order}), by_place)

    def test_what_was_told_may_be_handed_in_again(self):
        for plant, story, firing in DAYS:
            self.assertIs(is_firing(plant, story, caps_of(plant, story)), True)
            self.assertIs(books_right(plant, story, firing, course(plant, story, firing)), True)
            paper = cheapest(plant, story)
            self.assertIs(cheapest_holds(plant, story, paper), True)
            self.assertIs(is_firing(plant, story, paper[2]), True)
            self.assertIs(prices_hold(plant, story, paper[2], paper[3]), True)
            self.assertEqual(floor_of(plant, story, paper[3]), paper[1])
            self.assertIs(fewest_holds(plant, story, fewest(plant, story)), True)
            for boiler, hour in itertools.product(range(len(plant[0])), range(len(firing))):
                told = moved(plant, story, firing, boiler, hour)
                if told is not None:
                    self.assertIsNotNone(moved_by(plant, story, firing, boiler, hour, told))
                    self.assertIsNotNone(moved(plant, story, told, boiler, hour))
            tanks = right_things((plant, story, firing))["tanks"]
            word, feeding = feeds(plant, story, firing, tanks, 40)
            self.assertIs(feeds_holds(plant, story, firing, tanks, 40, (word, feeding)), True)
            self.assertIs(is_feeding(plant, story, 40, feeding), True)
            self.assertEqual(len(water_at(plant, story, firing, tanks, 40, feeding)), len(firing))
            self.assertEqual(firing_read(plant, story, firing_text(plant, story, firing)), firing)
            self.assertEqual(lacking(plant, story, firing, (0, 1), shift_coal(plant, story, firing, (0, 1))), [])
        self.assertIs(cheapest_holds(SHORT, SHORT_STORY, cheapest(SHORT, SHORT_STORY)), True)
        self.assertIs(stretch_holds(SHORT, SHORT_STORY, stretch_of(SHORT, SHORT_STORY)), True)
        self.assertIs(fewest_holds(SHORT, SHORT_STORY, fewest(SHORT, SHORT_STORY)), True)


if __name__ == "__main__":
    unittest.main()
