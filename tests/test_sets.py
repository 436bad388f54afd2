"""6.1 and 6.2: the fewest boilers, what shows it, and what boilers do alone."""

import itertools
import unittest

from mainfires.days import keeps_up
from mainfires.errors import NoPlant, NoSet, NoStory
from mainfires.kinds import full_firing, is_firing
from mainfires.least import least_coal
from mainfires.sets import alone, fewest, fewest_holds, needed
from mainfires.stretches import stretch_of
from tests.helper import EDGES, ONE, ONE_STORY, SHORT, SHORT_STORY, TIGHT, TIGHT_STORY, WIDE, WIDE_STORY
from tests.helper import all_sets, all_stories, as_lists, hand_terms, misshapen, only_boilers, strange_things
from tests.helper import walked_coal

ALL = all_stories()
TIGHT_PAPER = ("lit", (0, 1), ((2, 0), (3, 2), (0, 0)), ((0, 1), (1, 1)))

# Two of the three do, whichever; one doesn't.
ALIKE = (((2, 3), (2, 1), (2, 2)), (), (0, 5, 0))
ALIKE_STORY = ((4, 3), ())
ALIKE_SHOWS = ((0, 0), (0, 0), (0, 0))


def stretches_shown(terms):
    """The rising list of all stretches that show that no firing keeps up under the terms."""
    low, high, start = terms["main"]
    hours = range(len(terms["draws"]))
    found = []
    for first, last in itertools.product(hours, repeat=2):
        most = sum(sum(row) for row in terms["caps"][first : last + 1])
        ahead = start if first == 0 else high
        if first <= last and ahead + most < sum(terms["draws"][first : last + 1]) + low:
            found.append((first, last))
    return found


def sets_that_do(plant, story):
    """All sets with which some firing does, those of fewer ahead."""
    terms = hand_terms(plant, story)
    return [chosen for chosen in all_sets(len(plant[0])) if walked_coal(only_boilers(terms, chosen)) is not None]


class Fewest(unittest.TestCase):
    def test_by_hand(self):
        word, chosen, firing, shows = fewest(TIGHT, TIGHT_STORY)
        self.assertEqual((word, chosen, shows), ("lit", (0, 1), ((0, 1), (1, 1))))
        self.assertTrue(keeps_up(TIGHT, TIGHT_STORY, firing))

    def test_the_least_set_of_that_many(self):
        word, chosen, firing, shows = fewest(ALIKE, ALIKE_STORY)
        self.assertEqual((word, chosen, shows), ("lit", (0, 1), ALIKE_SHOWS))
        self.assertEqual([row[2] for row in firing], [0, 0])

    def test_one_boiler(self):
        word, chosen, firing, shows = fewest(ONE, ONE_STORY)
        self.assertEqual((word, chosen, shows), ("lit", (0,), ((0, 1),)))

    def test_four_boilers(self):
        word, chosen, firing, shows = fewest(WIDE, WIDE_STORY)
        self.assertEqual((word, chosen, shows), ("lit", (0, 3), ((0, 2), (0, 2), (0, 3), (0, 6))))
        plant = (((1, 1),) * 4, (), (0, 0, 0))
        self.assertEqual(fewest(plant, ((4,), ())), ("lit", (0, 1, 2, 3), ((1, 1, 1, 1),), ((0, 0),) * 4))
        self.assertEqual(fewest(plant, ((2,), ()))[1], (0, 1))
        self.assertEqual(len(fewest(plant, ((3,), ()))[3]), 6)
        self.assertEqual(fewest(plant, ((5,), ())), ("short", 0, 0))

    def test_no_boiler(self):
        plant = (((9, 1), (9, 2)), (), (0, 9, 9))
        self.assertEqual(fewest(plant, ((4, 5), ())), ("lit", (), ((0, 0), (0, 0)), ()))
        self.assertEqual(fewest(plant, ((4, 6), ()))[1:], ((0,), fewest(plant, ((4, 6), ()))[2], ((0, 1),)))

    def test_where_no_firing_keeps_up(self):
        self.assertEqual(fewest(SHORT, SHORT_STORY), ("short", 0, 2))

    def test_at_all_stories(self):
        for plant, story in ALL:
            paper = fewest(plant, story)
            self.assertIs(type(paper), tuple)
            self.assertIs(fewest_holds(plant, story, paper), True)
            sets = sets_that_do(plant, story)
            if not sets:
                self.assertEqual(paper, ("short",) + stretch_of(plant, story))
            else:
                self.assert_lit(plant, story, paper, sets[0])

    def assert_lit(self, plant, story, paper, chosen):
        word, told, firing, shows = paper
        self.assertEqual((word, told), ("lit", chosen))
        self.assertTrue(is_firing(plant, story, firing))
        self.assertTrue(keeps_up(plant, story, firing))
        self.assertTrue(all(made == 0 for row in firing for at, made in enumerate(row) if at not in chosen))
        terms = hand_terms(plant, story)
        fewer = [each for each in all_sets(len(plant[0])) if len(each) == len(chosen) - 1]
        self.assertEqual(shows, tuple([stretches_shown(only_boilers(terms, each))[0] for each in fewer]))

    def test_each_number_of_boilers_is_among_the_stories(self):
        told = [fewest(plant, story) for plant, story in ALL]
        self.assertEqual({len(paper[1]) for paper in told if paper[0] == "lit"}, {0, 1, 2, 3, 4})

    def test_both_sorts_at_the_edges(self):
        for name, plant, story in EDGES:
            due = "short" if "short" in name or "beyond" in name else "lit"
            self.assertEqual(fewest(plant, story)[0], due, name)


class FewestHolds(unittest.TestCase):
    def assert_held(self, plant, story, thing):
        self.assertIs(fewest_holds(plant, story, thing), True, thing)

    def assert_not_held(self, plant, story, thing):
        self.assertIs(fewest_holds(plant, story, thing), False, thing)

    def test_any_set_of_that_many(self):
        for chosen in ((0, 1), (0, 2), (1, 2)):
            row = tuple([2 if boiler in chosen else 0 for boiler in range(3)])
            self.assert_held(ALIKE, ALIKE_STORY, ("lit", chosen, (row, row), ALIKE_SHOWS))

    def test_sets_of_more_or_fewer(self):
        full = full_firing(ALIKE, ALIKE_STORY)
        none = ((0, 0, 0), (0, 0, 0))
        shows = {0: (), 1: ((0, 0),), 2: ALIKE_SHOWS, 3: ALIKE_SHOWS}
        for chosen in all_sets(3):
            if len(chosen) != 2:
                for firing in (full, none, ((2, 2, 0), (2, 2, 0)), ((2, 0, 0), (2, 0, 0))):
                    for shown in list(shows.values()) + [((0, 1),) * 3, ((0, 0),) * 2]:
                        self.assert_not_held(ALIKE, ALIKE_STORY, ("lit", chosen, firing, shown))

    def test_any_firing_that_does_with_it(self):
        for firing in (((2, 2, 0), (1, 2, 0)), ((2, 2, 0), (2, 1, 0)), ((2, 2, 0), (2, 2, 0))):
            self.assert_held(ALIKE, ALIKE_STORY, ("lit", (0, 1), firing, ALIKE_SHOWS))
        self.assert_held(TIGHT, TIGHT_STORY, ("lit", (0, 1), ((3, 4), (3, 4), (3, 4)), ((0, 1), (1, 1))))

    def test_firings_that_do_not_do_with_it(self):
        wrong = (
            ((2, 2, 0), (1, 1, 0)),
            ((2, 1, 0), (2, 2, 0)),
            ((2, 2, 0), (2, 0, 1)),
            ((2, 2, 1), (2, 2, 0)),
            ((2, 2, 2), (2, 2, 2)),
            ((2, 2), (2, 2)),
            ((3, 1, 0), (2, 2, 0)),
            ((2, 2, 0),),
            ((2, 2, 0), (2, 2, 0), (2, 2, 0)),
            ((2, 2, False), (2, 2, 0)),
            ((2, 2, 0), (True, 2, 0)),
            [(2, 2, 0), (2, 2, 0)],
            ([2, 2, 0], (2, 2, 0)),
        )
        for firing in wrong:
            self.assert_not_held(ALIKE, ALIKE_STORY, ("lit", (0, 1), firing, ALIKE_SHOWS))

    def test_any_stretches_that_show_so(self):
        firing = ((2, 2, 0), (2, 2, 0))
        for shows in itertools.product(((0, 0), (0, 1)), repeat=3):
            self.assert_held(ALIKE, ALIKE_STORY, ("lit", (0, 1), firing, shows))
        for at in range(3):
            for wrong in ((1, 1), (1, 0), (0, 2), (-1, 0), (0,), (0, 0, 0), [0, 0], (False, 0), None, ()):
                shows = ALIKE_SHOWS[:at] + (wrong,) + ALIKE_SHOWS[at + 1 :]
                self.assert_not_held(ALIKE, ALIKE_STORY, ("lit", (0, 1), firing, shows))

    def test_stretches_go_as_sets_rise(self):
        # With the boiler 0 alone (0, 1) shows it, with the boiler 1 alone (1, 1) does.
        self.assert_held(TIGHT, TIGHT_STORY, TIGHT_PAPER)
        self.assert_not_held(TIGHT, TIGHT_STORY, TIGHT_PAPER[:3] + (((1, 1), (0, 1)),))
        self.assert_not_held(TIGHT, TIGHT_STORY, TIGHT_PAPER[:3] + (((0, 1), (0, 1)),))
        self.assert_held(TIGHT, TIGHT_STORY, TIGHT_PAPER[:3] + (((1, 1), (1, 1)),))

    def test_each_stretch_at_all_stories(self):
        for plant, story in ALL[::3]:
            paper = fewest(plant, story)
            if paper[0] == "lit":
                terms = hand_terms(plant, story)
                fewer = [each for each in all_sets(len(plant[0])) if len(each) == len(paper[1]) - 1]
                hours = range(-1, len(story[0]) + 1)
                for at, chosen in enumerate(fewer):
                    shown = stretches_shown(only_boilers(terms, chosen))
                    for stretch in itertools.product(hours, repeat=2):
                        shows = paper[3][:at] + (stretch,) + paper[3][at + 1 :]
                        thing = paper[:3] + (shows,)
                        self.assertIs(fewest_holds(plant, story, thing), stretch in shown)

    def test_each_set_at_all_stories(self):
        for plant, story in ALL:
            paper = fewest(plant, story)
            if paper[0] == "lit":
                full = full_firing(plant, story)
                does = sets_that_do(plant, story)
                for chosen in all_sets(len(plant[0])):
                    rows = [[made if at in chosen else 0 for at, made in enumerate(row)] for row in full]
                    firing = tuple([tuple(row) for row in rows])
                    due = len(chosen) == len(paper[1]) and chosen in does
                    self.assertIs(fewest_holds(plant, story, ("lit", chosen, firing, paper[3])), due)

    def test_stretches_more_or_less(self):
        firing = ((2, 2, 0), (2, 2, 0))
        for shows in ((), ((0, 0),), ((0, 0),) * 2, ((0, 0),) * 4, ((0, 0),) * 6, [(0, 0)] * 3, None, (0, 0), 3):
            self.assert_not_held(ALIKE, ALIKE_STORY, ("lit", (0, 1), firing, shows))

    def test_the_set_of_none(self):
        plant = (((9, 1), (9, 2)), (), (0, 9, 9))
        story = ((4, 5), ())
        none = ((0, 0), (0, 0))
        self.assert_held(plant, story, ("lit", (), none, ()))
        for shows in (((0, 0),), ((0, 1),), ((),), None, [], 0):
            self.assert_not_held(plant, story, ("lit", (), none, shows))
        self.assert_not_held(plant, story, ("lit", (), ((1, 0), (0, 0)), ()))
        self.assert_not_held(plant, story, ("lit", (0,), none, ()))
        self.assert_not_held(plant, story, ("lit", (0,), none, ((0, 1),)))
        self.assert_not_held(plant, ((4, 6), ()), ("lit", (), none, ()))

    def test_what_is_no_set(self):
        wrong = ((1, 0), (0, 0), (0, 1, 1), (0, 2), (-1, 0), (False, 1), (0, True), [0, 1], (0, "1"), None, 2, "01")
        for chosen in wrong:
            self.assert_not_held(TIGHT, TIGHT_STORY, TIGHT_PAPER[:1] + (chosen,) + TIGHT_PAPER[2:])

    def test_short_papers(self):
        for stretch in itertools.product(range(-1, 4), repeat=2):
            held = stretch in ((0, 2), (2, 2))
            self.assertIs(fewest_holds(SHORT, SHORT_STORY, ("short",) + stretch), held)
            self.assert_not_held(TIGHT, TIGHT_STORY, ("short",) + stretch)
        full = full_firing(SHORT, SHORT_STORY)
        self.assert_not_held(SHORT, SHORT_STORY, ("lit", (0,), full, ((0, 2),)))
        for thing in (("short", (0, 2)), ("short", 0, 2, 2), ["short", 0, 2], ("lit", 0, 2), ("short", False, 2)):
            self.assert_not_held(SHORT, SHORT_STORY, thing)

    def test_other_words_and_lengths(self):
        for word in ("Lit", "", "fired", "short", None, 0, True, ("lit",), ["lit"]):
            self.assert_not_held(TIGHT, TIGHT_STORY, (word,) + TIGHT_PAPER[1:])
        for thing in (TIGHT_PAPER[:3], TIGHT_PAPER[1:], TIGHT_PAPER + (0,), (TIGHT_PAPER,), list(TIGHT_PAPER)):
            self.assert_not_held(TIGHT, TIGHT_STORY, thing)

    def test_misshapen_papers(self):
        for thing in misshapen(TIGHT_PAPER) + [as_lists(TIGHT_PAPER)]:
            self.assert_not_held(TIGHT, TIGHT_STORY, thing)
        for thing in misshapen(("short", 0, 2)):
            self.assert_not_held(SHORT, SHORT_STORY, thing)

    def test_things_of_all_sorts(self):
        for thing in strange_things():
            self.assert_not_held(SHORT, SHORT_STORY, thing)
            self.assert_not_held(TIGHT, TIGHT_STORY, thing)
            for at in range(4):
                self.assert_not_held(TIGHT, TIGHT_STORY, TIGHT_PAPER[:at] + (thing,) + TIGHT_PAPER[at + 1 :])


class Alone(unittest.TestCase):
    def test_by_hand(self):
        self.assertEqual(alone(ALIKE, ALIKE_STORY, (0, 1, 2)), (2 * 1 + 2 * 2) + (2 * 1 + 1 * 2))
        self.assertEqual(alone(ALIKE, ALIKE_STORY, (1, 2)), (2 * 1 + 2 * 2) + (2 * 1 + 1 * 2))
        self.assertEqual(alone(ALIKE, ALIKE_STORY, (0, 1)), (2 * 3 + 2 * 1) + (2 * 1 + 1 * 3))
        self.assertEqual(alone(ALIKE, ALIKE_STORY, (0, 2)), (2 * 3 + 2 * 2) + (2 * 2 + 1 * 3))
        self.assertEqual(alone(TIGHT, TIGHT_STORY, (0, 1)), 15)
        self.assertEqual([alone(TIGHT, TIGHT_STORY, chosen) for chosen in ((), (0,), (1,))], [None, None, None])

    def test_where_nothing_must_be_made(self):
        plant = (((9, 1), (9, 2)), (), (0, 9, 9))
        self.assertEqual([alone(plant, ((4, 5), ()), chosen) for chosen in all_sets(2)], [0, 0, 0, 0])
        self.assertEqual([alone(plant, ((4, 6), ()), chosen) for chosen in all_sets(2)], [None, 1, 2, 1])

    def test_at_all_stories(self):
        for plant, story in ALL:
            terms = hand_terms(plant, story)
            for chosen in all_sets(len(plant[0])):
                self.assertEqual(alone(plant, story, chosen), walked_coal(only_boilers(terms, chosen)))
            self.assertEqual(alone(plant, story, tuple(range(len(plant[0])))), least_coal(plant, story))

    def test_refused(self):
        wrong = (None, 0, "", [], {}, [0], (2,), (-1,), (0, 0), (1, 0), (0, 1, 2), (True,), (False, 1), ("0",), ((0,),))
        for chosen in wrong + ((0, 1, 1), (0, None), "01", {0: 1}, (10**30,)):
            for plant, story in ((TIGHT, TIGHT_STORY), (TIGHT, ((20, 20), ()))):
                with self.assertRaises(NoSet):
                    alone(plant, story, chosen)
        with self.assertRaises(NoSet):
            alone(SHORT, SHORT_STORY, (1,))
        with self.assertRaises(NoStory):
            alone(TIGHT, None, None)
        with self.assertRaises(NoPlant):
            alone(None, None, None)


class Needed(unittest.TestCase):
    def test_by_hand(self):
        self.assertEqual(needed(TIGHT, TIGHT_STORY), (0, 1))
        self.assertEqual(needed(ALIKE, ALIKE_STORY), ())
        self.assertEqual(needed(WIDE, WIDE_STORY), (3,))

    def test_where_no_firing_keeps_up_each_is(self):
        self.assertEqual(needed(SHORT, SHORT_STORY), (0,))
        self.assertEqual(needed(TIGHT, ((20, 20), ())), (0, 1))

    def test_at_all_stories(self):
        for plant, story in ALL:
            boilers = range(len(plant[0]))
            does = sets_that_do(plant, story)
            due = [boiler for boiler in boilers if tuple([each for each in boilers if each != boiler]) not in does]
            self.assertEqual(needed(plant, story), tuple(due))


if __name__ == "__main__":
    unittest.main()
