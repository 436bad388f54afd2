"""10.3 and 10.4: a desk, its lines, and what it refuses."""

import itertools
import random
import unittest

from mainfires.days import coal_of, course, falls_at, keeps_up
from mainfires.desk import Desk
from mainfires.errors import MainError, NoAmount, NoBoiler, NoDeed, NoHour, NoLine, NoPlant, NoStory, NoText, NoWay
from mainfires.kinds import caps_of, is_firing
from mainfires.least import least_coal
from mainfires.stretches import stretch_of
from mainfires.texts import firing_read, firing_text
from tests.helper import DAYS, EDGES, ONE, ONE_STORY, SHORT, SHORT_STORY, TIGHT, TIGHT_STORY, TWO, TWO_FIRING, TWO_STORY
from tests.helper import all_stories, as_lists, put, strange_things

TWO_TEXT = "6 3/3 0/2 0/6 0"
NOTHING = "0 0/0 0/0 0/0 0"
WORDS = ("stoke", "bank", "fire", "undo", "least", "show", "main", "falls", "coal", "stretch")
# Each line that the document names, in one right form.
RIGHT = (
    "stoke 0 0 6", "bank 0", "fire " + TWO_TEXT, "undo", "least", "show", "main", "falls", "coal", "stretch",
)  # fmt: skip


def refusal(desk, line):
    """What the desk refuses the line with, None where it answers it."""
    try:
        desk.say(line)
    except MainError as told:
        return type(told)
    return None


def joined(numbers):
    return " ".join(str(number) for number in numbers)


class Lines(unittest.TestCase):
    def talk(self, desk, *rows):
        for line, due in rows:
            told = desk.say(line)
            self.assertEqual((told, type(told)), (due, str), line)

    def test_a_talk(self):
        # 6 in the main at first; 5, 2, 7 and 2 are drawn, the mark is 2.
        self.talk(
            Desk(TWO, TWO_STORY),
            ("show", NOTHING),
            ("main", "none"),
            ("falls", "0 1"),
            ("coal", "0"),
            ("stretch", "-"),
            ("stoke 1 0 3", "-"),
            ("stoke 0 1 3", "5"),
            ("main", "4 5"),
            ("falls", "2 4"),
            ("coal", "21"),
            ("show", "0 3/3 0/0 0/0 0"),
            ("fire " + TWO_TEXT, "ok"),
            ("show", TWO_TEXT),
            ("main", "10 11 6 10"),
            ("falls", "-"),
            ("coal", "49"),
            ("bank 2", "ok"),
            ("show", "6 3/3 0/0 0/6 0"),
            ("main", "10 11 4 8"),
            ("undo", "ok"),
            ("show", TWO_TEXT),
            ("undo", "ok"),
            ("show", "0 3/3 0/0 0/0 0"),
            ("undo", "ok"),
            ("undo", "ok"),
            ("show", NOTHING),
        )

    def test_least(self):
        desk = Desk(TIGHT, TIGHT_STORY)
        self.talk(
            desk,
            ("least", "15"),
            ("coal", "15"),
            ("falls", "-"),
            ("stretch", "-"),
            ("undo", "ok"),
            ("show", "0 0/0 0/0 0"),
            ("coal", "0"),
        )
        self.assertIs(refusal(desk, "undo"), NoDeed)

    def test_least_takes_a_firing_that_keeps_up(self):
        for plant, story in all_stories():
            coal = least_coal(plant, story)
            desk = Desk(plant, story)
            if coal is None:
                self.assertIs(refusal(desk, "least"), NoWay)
                self.assertIs(refusal(desk, "undo"), NoDeed)
                self.assertEqual(desk.say("coal"), "0")
                self.assertEqual(desk.say("stretch"), joined(stretch_of(plant, story)))
            else:
                self.assertEqual(desk.say("least"), str(coal))
                firing = firing_read(plant, story, desk.say("show"))
                self.assertIs(keeps_up(plant, story, firing), True)
                self.assertEqual(coal_of(plant, story, firing), coal)
                self.assertEqual(desk.say("coal"), str(coal))
                self.assertEqual(desk.say("stretch"), "-")

    def test_no_firing_keeps_up(self):
        desk = Desk(SHORT, SHORT_STORY)
        desk.say("stoke 0 0 2")
        self.assertIs(refusal(desk, "least"), NoWay)
        self.talk(desk, ("show", "2/0/0"), ("stretch", "0 2"), ("undo", "ok"), ("show", "0/0/0"))
        self.assertIs(refusal(desk, "undo"), NoDeed)

    def test_numbers_of_two_figures(self):
        plant = (((9, 9),), (), (0, 40, 40))
        self.talk(
            Desk(plant, ((0, 20, 20), ())),
            ("stoke 0 0 9", "0"),
            ("main", "40 20 0"),
            ("stoke 2 0 9", "9"),
            ("stoke 1 0 9", "18"),
            ("main", "40 29 18"),
            ("coal", "243"),
        )
        self.talk(Desk(plant, ((20, 20, 20), ())), ("falls", "2 20"), ("stoke 0 0 0", "0"), ("main", "20 0"))

    def test_none_and_a_dash(self):
        desk = Desk((((2, 1),), (), (1, 5, 1)), ((2, 0), ()))
        self.talk(
            desk,
            ("main", "none"),
            ("falls", "0 2"),
            ("stoke 0 0 1", "-"),
            ("main", "none"),
            ("stoke 0 0 2", "1"),
            ("main", "1 1"),
            ("falls", "-"),
        )

    def test_one_hour(self):
        self.talk(Desk(ONE, ((9,), ())), ("show", "0"), ("fire 4", "ok"), ("show", "4"), ("main", "0"), ("falls", "-"))

    def test_each_right_line_alone(self):
        for line in RIGHT:
            desk = Desk(TWO, TWO_STORY)
            desk.say("bank 0")
            self.assertIsNone(refusal(desk, line), line)


class Refused(unittest.TestCase):
    def assert_refused(self, error, line, plant=TWO, story=TWO_STORY):
        """Refused with just that class, at a desk at which a deed stands and at one at which none does."""
        for deeds in ((), ("fire " + TWO_TEXT,) if plant == TWO else ("stoke 0 0 1",)):
            desk = Desk(plant, story)
            for deed in deeds:
                desk.say(deed)
            ahead = desk.say("show")
            self.assertIs(refusal(desk, line), error, line)
            self.assertEqual(desk.say("show"), ahead)
            for deed in deeds:
                self.assertEqual(desk.say("undo"), "ok")
            self.assertIs(refusal(desk, "undo"), NoDeed)

    def test_no_plant_and_no_story(self):
        for wrong in strange_things():
            for story in (wrong, TWO_STORY):
                with self.assertRaises(NoPlant):
                    Desk(wrong, story)
            with self.assertRaises(NoStory):
                Desk(TWO, wrong)
        with self.assertRaises(NoStory):
            Desk(ONE, TWO_STORY)

    def test_no_text(self):
        for thing in strange_things() + [["undo"], ("show",), {"show": 1}, ("stoke", 0, 0, 1), list("show")]:
            if not isinstance(thing, str):
                self.assert_refused(NoLine, thing)

    def test_another_first_word(self):
        for line in (
            "", " ", "x", "Show", "SHOW", "shows", "sho", "s", "stok 0 0 1", "stoker 0 0 1", "Stoke 0 0 1", "banks 0",
            "fir 0", "fires 0", "Fire " + TWO_TEXT, "FIRE", TWO_TEXT, "0", "0 0 1", "-", "ok", "none", "undo,", "help",
            "take_over " + TWO_TEXT, "kept_firing", "?", "~" * 500, "x" * 2000, "show;", "show/show",
        ):  # fmt: skip
            self.assert_refused(NoLine, line)

    def test_words_too_many_and_too_few(self):
        for line in (
            "stoke", "stoke 0", "stoke 0 0", "stoke 0 0 1 1", "stoke 0 0 1 x", "bank", "bank 0 0", "bank 0 0 0", "fire",
            "undo 0", "undo undo", "undo x", "least 0", "least x", "show 0", "show show", "main 0", "falls 0", "coal 0",
            "stretch 0", "stretch 0 0", "stoke 0 0 1 show", "bank bank", "show " + TWO_TEXT,
        ):  # fmt: skip
            self.assert_refused(NoLine, line)

    def test_words_that_are_no_figures(self):
        wrong = (
            "x", "-1", "+1", "00", "01", "09", "000", "001", "100", "999", "1000", "1.", "1_0", "0x1", "a", "1a", "-",
            "-0", "one", "H", "0/0", "0,0", "1" * 31, "0\n", "\t0", "0\t", "(0)", "'0'",
        )  # fmt: skip
        for word in wrong:
            self.assert_refused(NoLine, f"bank {word}")
            self.assert_refused(NoLine, f"stoke {word} 0 1")
            self.assert_refused(NoLine, f"stoke 0 {word} 1")
            self.assert_refused(NoLine, f"stoke 0 0 {word}")

    def test_blanks_more_tabs_and_line_ends(self):
        for word in WORDS:
            for sign in (" ", "\t", "\n"):
                self.assert_refused(NoLine, sign + word)
            for sign in ("\t", "\n", "\n" + word, "\t" + word):
                self.assert_refused(NoLine, word + sign)
            if word != "fire":
                self.assert_refused(NoLine, f"{word} ")
                self.assert_refused(NoLine, f"{word}  ")
        for line in (
            "stoke  0 0 1", "stoke 0  0 1", "stoke 0 0  1", "stoke 0 0 1 ", " stoke 0 0 1", "stoke 0 0 ", "stoke  0 1",
            "stoke\t0 0 1", "stoke 0\t0 1", "stoke 0 0\t1", "stoke 0 0 1\n", "bank  0", "bank 0 ", " bank 0", "bank\t0",
            "bank 0\n", "fire\t" + TWO_TEXT, " fire " + TWO_TEXT, "fire\n" + TWO_TEXT,
        ):  # fmt: skip
            self.assert_refused(NoLine, line)

    def test_no_line_comes_ahead_of_all_else(self):
        for line in ("undo 1", "stoke 99 99 100", "stoke 4 0 07", "bank 99 x", "stoke 99 99", "least 1"):
            self.assert_refused(NoLine, line)
            self.assertIs(refusal(Desk(SHORT, SHORT_STORY), line), NoLine)

    def test_no_hour_no_boiler_no_amount(self):
        for line, error in (
            ("stoke 4 0 0", NoHour),
            ("stoke 10 0 0", NoHour),
            ("stoke 99 99 99", NoHour),
            ("bank 4", NoHour),
            ("bank 99", NoHour),
            ("stoke 0 2 0", NoBoiler),
            ("stoke 3 99 99", NoBoiler),
            ("stoke 0 0 7", NoAmount),
            ("stoke 0 0 99", NoAmount),
            ("stoke 0 1 4", NoAmount),
            ("stoke 1 0 4", NoAmount),
            ("stoke 2 1 1", NoAmount),
        ):
            self.assert_refused(error, line)

    def test_fire_takes_all_behind_one_blank(self):
        for text, at in (
            ("", 0),
            (" ", 0),
            (" " + TWO_TEXT, 0),
            (TWO_TEXT + " ", 3),
            (TWO_TEXT + "\n", 3),
            (TWO_TEXT + "/", 4),
            (TWO_TEXT + "/0 0", 4),
            ("6 3/3 0/2 0", -1),
            ("6 3", -1),
            ("7 3/3 0/2 0/6 0", 0),
            ("6 3/03 0/2 0/6 0", 1),
            ("6 3/3  0/2 0/6 0", 1),
            ("6 3/3 0/2\t0/6 0", 2),
            ("x", 0),
            ("fire " + TWO_TEXT, 0),
            ("0" * 1990, 0),
        ):
            self.assert_refused(NoText, "fire " + text)
            with self.assertRaises(NoText) as told:
                Desk(TWO, TWO_STORY).say("fire " + text)
            self.assertEqual(told.exception.at, at, text)

    def test_no_deed(self):
        desk = Desk(TWO, TWO_STORY)
        for line in ("show", "main", "falls", "coal", "stretch"):
            desk.say(line)
            self.assertIs(refusal(desk, "undo"), NoDeed)
        for line in ("stoke 9 9 9", "fire x", "bank 7", "show 1", None):
            self.assertIsNotNone(refusal(desk, line))
            self.assertIs(refusal(desk, "undo"), NoDeed)

    def test_each_deed_is_one(self):
        for line in ("stoke 0 0 1", "stoke 0 0 0", "bank 0", "fire " + NOTHING, "fire " + TWO_TEXT, "least"):
            desk = Desk(TWO, TWO_STORY)
            desk.say(line)
            self.assertEqual(desk.say("undo"), "ok")
            self.assertEqual(desk.say("show"), NOTHING)
            self.assertIs(refusal(desk, "undo"), NoDeed)


class Apart(unittest.TestCase):
    def test_two_desks_side_by_side(self):
        one, other = Desk(TWO, TWO_STORY), Desk(TWO, TWO_STORY)
        one.say("stoke 0 0 4")
        self.assertEqual(other.say("show"), NOTHING)
        self.assertIs(refusal(other, "undo"), NoDeed)
        other.say("fire " + TWO_TEXT)
        self.assertEqual(one.say("show"), "4 0/0 0/0 0/0 0")
        one.say("undo")
        self.assertEqual(other.say("show"), TWO_TEXT)
        self.assertEqual(one.say("show"), NOTHING)

    def test_desks_of_several_plants(self):
        desks = [Desk(plant, story) for plant, story, firing in DAYS]
        for desk, (plant, story, firing) in zip(desks, DAYS):
            self.assertEqual(desk.say("fire " + firing_text(plant, story, firing)), "ok")
        for desk, (plant, story, firing) in zip(desks, DAYS):
            self.assertEqual(desk.say("show"), firing_text(plant, story, firing))

    def test_by_name(self):
        desk = Desk(story=TWO_STORY, plant=TWO)
        self.assertEqual(desk.say(line="show"), NOTHING)

    def test_questions_change_nothing(self):
        desk = Desk(TWO, TWO_STORY)
        desk.say("fire " + TWO_TEXT)
        ahead = [desk.say(line) for line in ("show", "main", "falls", "coal", "stretch")]
        for turn in range(3):
            told = [desk.say(line) for line in ("show", "main", "falls", "coal", "stretch")]
            self.assertEqual(told, ahead)
        self.assertEqual(desk.say("undo"), "ok")
        self.assertIs(refusal(desk, "undo"), NoDeed)

    def test_what_is_refused_stays_as_it_was(self):
        for thing in ([], ["show"], {"show": 0}, [["undo"]], as_lists(TWO_FIRING)):
            ahead = repr(thing)
            self.assertIs(refusal(Desk(TWO, TWO_STORY), thing), NoLine)
            self.assertEqual(repr(thing), ahead)

    def test_by_chance(self):
        chance = random.Random(4)
        stories = [(plant, story) for name, plant, story in EDGES] + [(ONE, ONE_STORY), (TWO, TWO_STORY)]
        for plant, story in stories + all_stories()[-30:]:
            self.talk_by_chance(chance, plant, story)

    def talk_by_chance(self, chance, plant, story):
        """A talk of some lines, each answer reckoned by the other modules."""
        desk = Desk(plant, story)
        caps = caps_of(plant, story)
        stack = [tuple((0,) * len(row) for row in caps)]
        for turn in range(25):
            word = chance.choice(WORDS + ("stoke", "undo"))
            hour, boiler = chance.randrange(len(caps)), chance.randrange(len(caps[0]))
            amount = chance.randint(0, caps[hour][boiler])
            due = "ok"
            line = word
            if word == "stoke":
                line = f"stoke {hour} {boiler} {amount}"
                stack.append(put(stack[-1], (hour, boiler), amount))
                rows = course(plant, story, stack[-1])
                due = str(rows[-1][3]) if rows else "-"
            elif word == "bank":
                line = f"bank {hour}"
                stack.append(put(stack[-1], (hour,), (0,) * len(caps[0])))
            elif word == "fire":
                stack.append(tuple(tuple(chance.randint(0, cap) for cap in row) for row in caps))
                line = "fire " + firing_text(plant, story, stack[-1])
            elif word == "undo" and len(stack) == 1:
                due = NoDeed
            elif word == "undo":
                stack.pop()
            elif word == "least":
                due = str(least_coal(plant, story)) if least_coal(plant, story) is not None else NoWay
            else:
                due = self.answer_due(word, plant, story, stack[-1])
            if isinstance(due, str):
                self.assertEqual(desk.say(line), due, line)
            else:
                self.assertIs(refusal(desk, line), due, line)
            if word == "least" and isinstance(due, str):
                stack.append(firing_read(plant, story, desk.say("show")))
                self.assertIs(is_firing(plant, story, stack[-1]), True)
            self.assertEqual(desk.say("show"), firing_text(plant, story, stack[-1]))

    def answer_due(self, word, plant, story, firing):
        if word == "show":
            return firing_text(plant, story, firing)
        if word == "main":
            return joined(row[3] for row in course(plant, story, firing)) or "none"
        if word == "coal":
            return str(coal_of(plant, story, firing))
        pair = falls_at(plant, story, firing) if word == "falls" else stretch_of(plant, story)
        return "-" if pair is None else joined(pair)


class Figures(unittest.TestCase):
    def test_all_of_one_figure_or_two(self):
        """Just the numbers from 0 to 99 without a nought ahead are hours, boilers and numbers."""
        signs = "0123456789"
        words = list(signs) + [one + other for one, other in itertools.product(signs, signs)]
        words += ["".join(three) for three in itertools.product("01", "01", "01")]
        for word in words:
            due = NoLine if len(word) > 2 or (len(word) == 2 and word[0] == "0") else None
            desk = Desk(ONE, ONE_STORY)
            self.assertIs(refusal(desk, f"bank {word}"), due or (None if int(word) < 3 else NoHour))
            self.assertIs(refusal(desk, f"stoke 0 {word} 0"), due or (None if int(word) < 1 else NoBoiler))
            self.assertIs(refusal(desk, f"stoke 0 0 {word}"), due or (None if int(word) < 6 else NoAmount))


if __name__ == "__main__":
    unittest.main()
