"""10.1: the texts of firings."""

import unittest

from mainfires.errors import MainError, NoFiring, NoPlant, NoStory, NoText
from mainfires.texts import firing_read, firing_text
from tests.helper import DAYS, ONE, ONE_STORY, TWO, TWO_FIRING, TWO_STORY, all_firings, all_stories, chance_firings
from tests.helper import hand_text, misshapen, strange_things

TWO_TEXT = "6 3/3 0/2 0/6 0"


class Texts(unittest.TestCase):
    def test_by_hand(self):
        told = firing_text(TWO, TWO_STORY, TWO_FIRING)
        self.assertEqual((told, type(told)), (TWO_TEXT, str))
        self.assertEqual(firing_read(TWO, TWO_STORY, TWO_TEXT), TWO_FIRING)
        self.assertEqual(firing_text(ONE, ONE_STORY, ((0,), (5,), (3,))), "0/5/3")
        self.assertEqual(firing_read(ONE, ONE_STORY, "0/5/3"), ((0,), (5,), (3,)))

    def test_one_hour(self):
        self.assertEqual(firing_text(ONE, ((0,), ()), ((5,),)), "5")
        self.assertEqual(firing_read(ONE, ((0,), ()), "5"), ((5,),))
        self.assertEqual(firing_text(TWO, ((0,), ()), ((0, 3),)), "0 3")
        self.assertEqual(firing_read(TWO, ((0,), ()), "0 3"), ((0, 3),))

    def test_each_text_is_read_as_that_firing_again(self):
        for plant, story in all_stories():
            for firing in chance_firings(plant, story):
                text = firing_text(plant, story, firing)
                self.assertEqual(text, hand_text(firing))
                self.assertEqual(repr(firing_read(plant, story, text)), repr(firing))

    def test_through_all_firings(self):
        plant, story = (((2, 1), (3, 1)), (), (0, 5, 0)), ((1, 4), ((1, "scaled", 1, 1),))
        firings = all_firings(plant, story)
        told = [firing_text(plant, story, each) for each in firings]
        self.assertEqual(len(set(told)), len(firings))
        self.assertEqual([firing_read(plant, story, text) for text in told], firings)

    def test_firings_that_do_not_keep_up_are_let(self):
        self.assertEqual(firing_text(ONE, ONE_STORY, ((0,), (0,), (0,))), "0/0/0")
        self.assertEqual(firing_read(ONE, ONE_STORY, "0/0/0"), ((0,), (0,), (0,)))


class NoTexts(unittest.TestCase):
    def assert_no_text(self, at, thing, plant=TWO, story=TWO_STORY):
        try:
            firing_read(plant, story, thing)
        except MainError as told:
            self.assertEqual((type(told), told.at, type(told.at)), (NoText, at, int), thing)
        else:
            self.fail(thing)

    def test_no_text(self):
        for thing in strange_things() + [TWO_FIRING, [TWO_TEXT], (TWO_TEXT,), TWO_TEXT.split("/"), {0: TWO_TEXT}]:
            if not isinstance(thing, str):
                self.assert_no_text(-1, thing)

    def test_each_row_right_and_too_few(self):
        for text in ("6 3", "6 3/3 0", "6 3/3 0/2 0"):
            self.assert_no_text(-1, text)
        self.assert_no_text(-1, "5", ONE, ONE_STORY)
        self.assert_no_text(-1, "5/5", ONE, ONE_STORY)

    def test_the_empty_text_is_one_row_that_is_no_hours(self):
        self.assert_no_text(0, "")
        self.assert_no_text(0, "", ONE, ONE_STORY)
        self.assert_no_text(0, "", ONE, ((0,), ()))

    def test_a_row_too_many(self):
        for more in ("/6 0", "/", "/0 0", "/0 0/0 0", "//", "/x"):
            self.assert_no_text(4, TWO_TEXT + more)
        self.assert_no_text(1, "5/5", ONE, ((0,), ()))
        self.assert_no_text(3, "5/5/5/5", ONE, ONE_STORY)

    def test_the_first_wrong_row(self):
        rows = TWO_TEXT.split("/")
        for at in range(4):
            for wrong in ("", "x", "0", "0 0 0", "7 0", "0 4", "-1 0", "+1 0", "0  0", " 0 0", "0 0 ", "00 0", "0 00"):
                text = "/".join(rows[:at] + [wrong] + rows[at + 1 :])
                self.assert_no_text(at, text)
                self.assert_no_text(at, "/".join(rows[:at] + [wrong]))
                self.assert_no_text(at, "/".join(rows[:at] + [wrong] * 9))
        self.assert_no_text(1, "6 3/x/2 0/x")

    def test_a_slash_ahead(self):
        self.assert_no_text(0, "/" + TWO_TEXT)
        self.assert_no_text(2, TWO_TEXT.replace("/2", "//2"))

    def test_what_each_boiler_can_make_in_that_hour(self):
        # The boiler 0 can make 6, 3, 3 and 6, the other one 3, 3, 0 and 0.
        self.assertEqual(firing_read(TWO, TWO_STORY, "6 3/3 3/3 0/6 0"), ((6, 3), (3, 3), (3, 0), (6, 0)))
        self.assert_no_text(0, "7 3/3 3/3 0/6 0")
        self.assert_no_text(0, "6 4/3 3/3 0/6 0")
        self.assert_no_text(1, "6 3/4 3/3 0/6 0")
        self.assert_no_text(2, "6 3/3 3/4 0/6 0")
        self.assert_no_text(2, "6 3/3 3/3 1/6 0")
        self.assert_no_text(3, "6 3/3 3/3 0/6 1")
        self.assert_no_text(3, "6 3/3 3/3 0/7 0")

    def test_figures_of_more_than_one(self):
        for row in ("10", "05", "00", "50", "5 0", "9", "6", "-0", "+5", "5_0", "5.", "5" * 31):
            self.assert_no_text(0, row + "/5/3", ONE, ONE_STORY)

    def test_blanks_tabs_and_line_ends(self):
        for text in (" 0/5/3", "0 /5/3", "\t0/5/3", "0\n/5/3", "0\t/5/3", "\n/5/3"):
            self.assert_no_text(0, text, ONE, ONE_STORY)
        for text in ("0/5/3 ", "0/5/3\n", "0/5/ 3", "0/5/\n3", "0/5/3\t"):
            self.assert_no_text(2, text, ONE, ONE_STORY)
        for text in ("6\t3/3 0/2 0/6 0", "6\n3/3 0/2 0/6 0", "6,3/3 0/2 0/6 0", "63/3 0/2 0/6 0"):
            self.assert_no_text(0, text)

    def test_strange_texts(self):
        for text in ("~" * 500, "0" * 2000, "/" * 2000, " " * 2000, "((6, 3), (3, 0), (2, 0), (6, 0))", "none", "-"):
            self.assert_no_text(0, text)
        self.assert_no_text(3, "0/" * 1000, ONE, ONE_STORY)

    def test_just_what_is_written_so_is_read(self):
        story = ((0, 0), ())
        plant = (((1, 1), (1, 1)), (), (0, 0, 0))
        right = [firing_text(plant, story, each) for each in all_firings(plant, story)]
        for text in right:
            for at in range(len(text) + 1):
                for sign in ("", " ", "/", "0", "1", "2", "\n", "\t", "x"):
                    for changed in (text[:at] + sign + text[at:], text[:at] + sign + text[at + 1 :]):
                        if changed in right:
                            self.assertEqual(firing_text(plant, story, firing_read(plant, story, changed)), changed)
                        else:
                            with self.assertRaises(NoText):
                                firing_read(plant, story, changed)


class Refused(unittest.TestCase):
    def test_in_the_order_of_the_arguments(self):
        for wrong in strange_things():
            for call, last in ((firing_text, NoFiring), (firing_read, NoText)):
                with self.assertRaises(NoPlant):
                    call(wrong, wrong, wrong)
                with self.assertRaises(NoStory):
                    call(TWO, wrong, wrong)
                with self.assertRaises(last):
                    call(TWO, TWO_STORY, wrong)

    def test_misshapen_firings_have_no_text(self):
        for firing in misshapen(TWO_FIRING):
            with self.assertRaises(NoFiring):
                firing_text(TWO, TWO_STORY, firing)

    def test_by_name(self):
        for plant, story, firing in DAYS:
            text = firing_text(firing=firing, story=story, plant=plant)
            self.assertEqual(firing_read(text=text, story=story, plant=plant), firing)


if __name__ == "__main__":
    unittest.main()
