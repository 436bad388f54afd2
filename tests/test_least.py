"""3.1, 3.2 and 3.3: floors by prices, the firing that burns the least, and what shows it."""

import itertools
import random
import unittest

from mainfires.days import coal_of, course, keeps_up
from mainfires.errors import NoFiring, NoPlant, NoPrices, NoStory
from mainfires.kinds import caps_of, draws_of, full_firing
from mainfires.least import cheapest, cheapest_holds, floor_of, least_coal, prices_hold
from tests.helper import DAYS, EDGES, ONE, ONE_STORY, SHORT, SHORT_STORY, TIGHT, TIGHT_STORY, TWO, TWO_STORY
from tests.helper import all_firings, all_stories, as_lists, hand_terms, misshapen, put, strange_things, walked_coal

ALL = all_stories()
KEPT = [(plant, story) for plant, story in ALL if walked_coal(hand_terms(plant, story)) is not None]
TIGHT_FIRING = ((2, 0), (3, 2), (0, 0))
TIGHT_PRICES = (1, 5, 0)

# Few enough firings that all can be looked at.
SMALL = (
    ((((2, 1), (1, 3)), (), (1, 4, 2)), ((1, 4, 2), ())),
    ((((2, 2), (2, 4)), (), (0, 2, 1)), ((1, 4), ())),
    ((((2, 1), (1, 3)), (), (0, 3, 3)), ((0, 4, 3), ((0, "scaled", 1, 1), (1, "out", 0, 0)))),
    ((((2, 3),), ((1, 0, 2),), (2, 2, 2)), ((0, 1, 1, 0), ())),
    ((((3, 2),), (), (0, 2, 0)), ((0, 0, 0), ())),
)


def floor_by_hand(plant, story, prices):
    """The sum, part by part in the document's order."""
    low, high, start = plant[2]
    total = 0
    for hour, price in enumerate(prices):
        total += price * draws_of(plant, story)[hour]
    for hour, price in enumerate(prices):
        for boiler, (make, coal) in enumerate(plant[0]):
            if coal < price:
                total += caps_of(plant, story)[hour][boiler] * (coal - price)
    for hour, price in enumerate(prices):
        following = prices[hour + 1] if hour + 1 < len(prices) else 0
        if price - following > 0:
            total += (price - following) * low
        else:
            total += (price - following) * high
    return total - prices[0] * start


def is_just_where(plant, story, firing, prices):
    """What 3.3 says of prices that hold, row by row."""
    low, high, start = plant[2]
    rows = course(plant, story, firing)
    caps = caps_of(plant, story)
    for hour, price in enumerate(prices):
        following = (prices + (0,))[hour + 1]
        for boiler, (make, coal) in enumerate(plant[0]):
            if coal < price and firing[hour][boiler] != caps[hour][boiler]:
                return False
            if coal > price and firing[hour][boiler] != 0:
                return False
        if price < following and rows[hour][3] != high:
            return False
        if price > following and rows[hour][3] != low:
            return False
        if price > 0 and rows[hour][2] != 0:
            return False
    return True


def chance_prices(chance, hours):
    return tuple(chance.choice((0, chance.randint(0, 10), chance.randint(0, 10))) for hour in range(hours))


class Floors(unittest.TestCase):
    def test_by_hand(self):
        # -16 and 33 and 0 of the hours, less 2 for the start.
        self.assertEqual(floor_of(TIGHT, TIGHT_STORY, (1, 5, 0)), 15)
        self.assertEqual(floor_of(TIGHT, TIGHT_STORY, (0, 0, 0)), 0)
        self.assertEqual(floor_of(TIGHT, TIGHT_STORY, (5, 5, 0)), -12 + (40 - 12 + 5) - 10)
        self.assertEqual(floor_of(TIGHT, TIGHT_STORY, (1, 1, 1)), 8 + 1 - 2)
        self.assertEqual(floor_of(TIGHT, TIGHT_STORY, (0, 0, 7)), -28 + (-18 - 8 + 7))
        self.assertEqual(floor_of(ONE, ONE_STORY, (2, 2, 2)), 14)

    def test_one_hour(self):
        plant = (((5, 1), (4, 9)), (), (1, 3, 2))
        for price, floor in ((0, 0), (1, 6), (2, 12 - 5), (9, 54 - 40), (10, 60 - 45 - 4)):
            self.assertEqual(floor_of(plant, ((7,), ()), (price,)), floor)

    def test_caps_under_faults_count(self):
        plant = (((5, 1), (4, 2)), (), (0, 0, 0))
        story = ((0, 0), ((0, "out", 0, 0), (1, "scaled", 1, 1)))
        self.assertEqual(floor_of(plant, story, (3, 0)), 4 * -1)
        self.assertEqual(floor_of(plant, story, (0, 3)), 5 * -2 + 2 * -1)

    def test_part_by_part_at_all_stories(self):
        chance = random.Random(3)
        for plant, story in ALL:
            for turn in range(8):
                prices = chance_prices(chance, len(story[0]))
                self.assertEqual(floor_of(plant, story, prices), floor_by_hand(plant, story, prices))

    def test_prices_have_no_bound_above(self):
        for price in (10, 99, 10**30):
            for prices in ((price, 0, 0), (0, price, 0), (0, 0, price), (price, price, price)):
                self.assertEqual(floor_of(TIGHT, TIGHT_STORY, prices), floor_by_hand(TIGHT, TIGHT_STORY, prices))

    def test_no_firing_that_keeps_up_burns_less(self):
        for plant, story in SMALL:
            burnt = [coal_of(plant, story, each) for each in all_firings(plant, story) if keeps_up(plant, story, each)]
            for prices in itertools.product(range(6), repeat=len(story[0])):
                self.assertLessEqual(floor_of(plant, story, prices), min(burnt))

    def test_a_floor_where_no_firing_keeps_up(self):
        self.assertEqual(floor_of(SHORT, SHORT_STORY, (2, 2, 2)), 28 - 6 - 10)
        self.assertEqual(floor_of(SHORT, SHORT_STORY, (99, 99, 99)), 14 * 99 - 6 * 98 - 5 * 99)

    def test_refused(self):
        wrong = ((), (1,), (1, 1), (1, 1, 1, 1), [1, 1, 1], (1, -1, 1), (1, True, 1), (False, 1, 1), (1, "1", 1))
        for prices in wrong + ((1, None, 1), (1, (1,), 1), None, 1, "111", {0: 1, 1: 1, 2: 1}, (-1, 0, 0), (0, 0, -1)):
            with self.assertRaises(NoPrices):
                floor_of(TIGHT, TIGHT_STORY, prices)
        with self.assertRaises(NoStory):
            floor_of(TIGHT, None, None)
        with self.assertRaises(NoPlant):
            floor_of(None, None, None)


class Cheapest(unittest.TestCase):
    def test_by_hand(self):
        self.assertEqual(least_coal(TIGHT, TIGHT_STORY), 15)
        self.assertEqual(cheapest(TIGHT, TIGHT_STORY)[:3], ("fired", 15, TIGHT_FIRING))
        self.assertEqual(least_coal(ONE, ONE_STORY), 14)
        self.assertEqual(least_coal(TWO, TWO_STORY), 24)

    def test_by_hand_where_no_firing_keeps_up(self):
        paper = cheapest(SHORT, SHORT_STORY)
        self.assertIn(paper, (("short", 0, 2), ("short", 2, 2)))
        self.assertIsNone(least_coal(SHORT, SHORT_STORY))

    def test_what_is_cheap_is_made_ahead(self):
        # The cheap boiler is out where steam is due, and the main just holds what it can make ahead.
        plant = (((9, 1), (9, 2)), (), (0, 9, 0))
        self.assertEqual(least_coal(plant, ((0, 9), ((0, "out", 1, 1),))), 9)
        self.assertEqual(least_coal(plant, ((0, 10), ((0, "out", 1, 1),))), 9 + 2)
        self.assertEqual(least_coal(plant, ((9, 9), ((0, "out", 1, 1),))), 9 + 18)

    def test_what_is_there_burns_nothing(self):
        self.assertEqual(cheapest((((9, 9),), (), (0, 9, 9)), ((4, 5), ()))[:3], ("fired", 0, ((0,), (0,))))
        self.assertEqual(least_coal((((9, 9),), (), (1, 9, 9)), ((4, 5), ())), 9)

    def test_coal_at_all_stories(self):
        for plant, story in ALL:
            self.assertEqual(least_coal(plant, story), walked_coal(hand_terms(plant, story)))

    def test_coal_by_all_firings(self):
        for plant, story in SMALL:
            burnt = [coal_of(plant, story, each) for each in all_firings(plant, story) if keeps_up(plant, story, each)]
            self.assertEqual(least_coal(plant, story), min(burnt))

    def test_papers_at_all_stories(self):
        for plant, story in ALL:
            paper = cheapest(plant, story)
            coal = walked_coal(hand_terms(plant, story))
            self.assertIs(type(paper), tuple)
            self.assertIs(cheapest_holds(plant, story, paper), True)
            if coal is None:
                self.assertEqual((paper[0], len(paper)), ("short", 3))
            else:
                word, told, firing, prices = paper
                self.assertEqual((word, told), ("fired", coal))
                self.assertIs(keeps_up(plant, story, firing), True)
                self.assertEqual(coal_of(plant, story, firing), coal)
                self.assertEqual(floor_by_hand(plant, story, prices), coal)

    def test_both_sorts_at_the_edges(self):
        for name, plant, story in EDGES:
            due = "short" if "short" in name or "beyond" in name else "fired"
            self.assertEqual(cheapest(plant, story)[0], due, name)


class CheapestHolds(unittest.TestCase):
    def assert_held(self, plant, story, thing):
        self.assertIs(cheapest_holds(plant, story, thing), True, thing)

    def assert_not_held(self, plant, story, thing):
        self.assertIs(cheapest_holds(plant, story, thing), False, thing)

    def test_by_hand(self):
        self.assert_held(TIGHT, TIGHT_STORY, ("fired", 15, TIGHT_FIRING, TIGHT_PRICES))
        # Where no boiler burns so much and the main is at low, other prices do as well.
        self.assert_held(TIGHT, TIGHT_STORY, ("fired", 15, TIGHT_FIRING, (1, 5, 1)))
        for prices in ((0, 5, 0), (2, 5, 0), (1, 4, 0), (1, 6, 0), (1, 5, 2), (1, 5, 5), (0, 0, 0)):
            self.assert_not_held(TIGHT, TIGHT_STORY, ("fired", 15, TIGHT_FIRING, prices))

    def test_any_firing_that_burns_the_least(self):
        for firing in (((5,), (2,), (0,)), ((0,), (2,), (5,)), ((3,), (4,), (0,)), ((0,), (4,), (3,))):
            self.assert_held(ONE, ONE_STORY, ("fired", 14, firing, (2, 2, 2)))

    def test_a_firing_that_burns_more(self):
        for coal in (14, 16, 24):
            self.assert_not_held(ONE, ONE_STORY, ("fired", coal, ((5,), (3,), (0,)), (2, 2, 2)))
            self.assert_not_held(ONE, ONE_STORY, ("fired", coal, ((3,), (4,), (5,)), (2, 2, 2)))

    def test_a_firing_that_burns_less_and_does_not_keep_up(self):
        self.assert_not_held(ONE, ONE_STORY, ("fired", 12, ((5,), (1,), (0,)), (2, 2, 2)))
        self.assert_not_held(ONE, ONE_STORY, ("fired", 0, ((0,), (0,), (0,)), (0, 0, 0)))
        # It burns just the floor, but in the wrong hours.
        plant = (((9, 1),), (), (0, 9, 0))
        self.assert_held(plant, ((3, 0), ()), ("fired", 3, ((3,), (0,)), (1, 0)))
        self.assert_not_held(plant, ((3, 0), ()), ("fired", 3, ((0,), (3,)), (1, 0)))

    def test_the_wrong_coal(self):
        for coal in (-15, 0, 14, 16, True, "15", None, (15,), [15], 10**30):
            self.assert_not_held(TIGHT, TIGHT_STORY, ("fired", coal, TIGHT_FIRING, TIGHT_PRICES))

    def test_truths_are_no_numbers(self):
        plant = (((1, 1),), (), (0, 1, 0))
        story = ((1, 0), ())
        self.assert_held(plant, story, ("fired", 1, ((1,), (0,)), (1, 0)))
        self.assert_not_held(plant, story, ("fired", True, ((1,), (0,)), (1, 0)))
        self.assert_not_held(plant, story, ("fired", 1, ((True,), (0,)), (1, 0)))
        self.assert_not_held(plant, story, ("fired", 1, ((1,), (0,)), (True, 0)))
        self.assert_not_held(plant, story, ("fired", 1, ((1,), (0,)), (1, False)))
        still = ((0,), ())
        self.assert_held(plant, still, ("fired", 0, ((0,),), (0,)))
        self.assert_not_held(plant, still, ("fired", False, ((0,),), (0,)))

    def test_any_stretch_that_shows_it(self):
        for stretch in itertools.product(range(-1, 4), repeat=2):
            held = stretch in ((0, 2), (2, 2))
            self.assertIs(cheapest_holds(SHORT, SHORT_STORY, ("short",) + stretch), held)

    def test_the_other_sort_is_never_held(self):
        for plant, story in KEPT[:40]:
            hours = range(len(story[0]))
            for first, last in itertools.product(hours, repeat=2):
                self.assert_not_held(plant, story, ("short", first, last))
        for prices in itertools.product(range(4), repeat=3):
            firing = full_firing(SHORT, SHORT_STORY)
            self.assert_not_held(SHORT, SHORT_STORY, ("fired", coal_of(SHORT, SHORT_STORY, firing), firing, prices))
            floor = floor_of(SHORT, SHORT_STORY, prices)
            self.assert_not_held(SHORT, SHORT_STORY, ("fired", floor, firing, prices))

    def test_other_words(self):
        for word in ("Fired", "fire", "", "lit", "short", None, 0, True, ("fired",), ["fired"]):
            self.assert_not_held(TIGHT, TIGHT_STORY, (word, 15, TIGHT_FIRING, TIGHT_PRICES))
        for word in ("Short", "", "fired", "lit", None, 0, True, ("short",), ["short"]):
            self.assert_not_held(SHORT, SHORT_STORY, (word, 0, 2))

    def test_papers_with_more_or_less(self):
        paper = ("fired", 15, TIGHT_FIRING, TIGHT_PRICES)
        for thing in (paper[:3], paper[1:], paper + (0,), paper + (None,), (paper,), paper + paper, ()):
            self.assert_not_held(TIGHT, TIGHT_STORY, thing)
        short = ("short", 0, 2)
        for thing in (short[:2], short[1:], short + (2,), (short,), ("short", (0, 2)), ("short", 0, 2, None)):
            self.assert_not_held(SHORT, SHORT_STORY, thing)

    def test_misshapen_papers(self):
        for thing in misshapen(("fired", 15, TIGHT_FIRING, TIGHT_PRICES)):
            self.assert_not_held(TIGHT, TIGHT_STORY, thing)
        for thing in misshapen(("short", 2, 2)):
            self.assert_not_held(SHORT, SHORT_STORY, thing)

    def test_lists_for_tuples(self):
        paper = ("fired", 15, TIGHT_FIRING, TIGHT_PRICES)
        self.assert_not_held(TIGHT, TIGHT_STORY, list(paper))
        self.assert_not_held(TIGHT, TIGHT_STORY, as_lists(paper))
        self.assert_not_held(SHORT, SHORT_STORY, ["short", 0, 2])

    def test_things_of_all_sorts(self):
        for plant, story in ALL[:40]:
            for thing in strange_things():
                self.assert_not_held(plant, story, thing)
        for thing in strange_things():
            self.assert_not_held(TIGHT, TIGHT_STORY, ("fired", 15, TIGHT_FIRING, thing))
            self.assert_not_held(TIGHT, TIGHT_STORY, ("fired", 15, thing, TIGHT_PRICES))
            self.assert_not_held(TIGHT, TIGHT_STORY, ("fired", thing, TIGHT_FIRING, TIGHT_PRICES))
            self.assert_not_held(TIGHT, TIGHT_STORY, (thing, 15, TIGHT_FIRING, TIGHT_PRICES))
            self.assert_not_held(SHORT, SHORT_STORY, ("short", thing, 2) if thing != 0 or thing is False else None)

    def test_papers_of_another_story(self):
        self.assert_not_held(TIGHT, ((0, 7, 0), ()), ("fired", 15, TIGHT_FIRING, TIGHT_PRICES))
        self.assert_not_held(TIGHT, ((0, 9, 0), ()), ("fired", 15, TIGHT_FIRING, TIGHT_PRICES))
        self.assert_not_held(TIGHT, ((0, 8), ()), ("fired", 15, TIGHT_FIRING, TIGHT_PRICES))


class PricesHold(unittest.TestCase):
    def test_by_hand(self):
        asked = itertools.product(range(8), repeat=3)
        held = [prices for prices in asked if prices_hold(TIGHT, TIGHT_STORY, TIGHT_FIRING, prices)]
        self.assertEqual(held, [(1, 5, 0), (1, 5, 1)])

    def test_just_where_the_document_says(self):
        for plant, story in SMALL:
            for firing in [each for each in all_firings(plant, story) if keeps_up(plant, story, each)][::3]:
                for prices in itertools.product(range(5), repeat=len(story[0])):
                    due = is_just_where(plant, story, firing, prices)
                    self.assertIs(prices_hold(plant, story, firing, prices), due, (plant, story, firing, prices))

    def test_just_the_firings_that_burn_the_least(self):
        for plant, story in SMALL:
            word, coal, firing, prices = cheapest(plant, story)
            for each in all_firings(plant, story):
                if keeps_up(plant, story, each):
                    least = coal_of(plant, story, each) == coal
                    self.assertIs(prices_hold(plant, story, each, prices), least)

    def test_at_all_stories(self):
        chance = random.Random(5)
        for plant, story in KEPT:
            word, coal, firing, prices = cheapest(plant, story)
            self.assertIs(prices_hold(plant, story, firing, prices), True)
            full = full_firing(plant, story)
            self.assertIs(prices_hold(plant, story, full, prices), coal_of(plant, story, full) == coal)
            for turn in range(5):
                hour = chance.randrange(len(prices))
                other = put(prices, (hour,), chance.randint(0, 10))
                self.assertIs(prices_hold(plant, story, firing, other), is_just_where(plant, story, firing, other))

    def test_what_is_blown_off_has_no_price(self):
        plant = (((3, 1),), (), (0, 2, 2))
        story = ((0, 5), ())
        self.assertIs(prices_hold(plant, story, ((0,), (3,)), (0, 1)), True)
        self.assertIs(prices_hold(plant, story, ((0,), (3,)), (1, 9)), True)
        self.assertIs(prices_hold(plant, story, ((1,), (3,)), (1, 9)), False)
        self.assertIs(prices_hold(plant, story, ((1,), (3,)), (0, 9)), False)

    def test_no_bound_above(self):
        plant = (((3, 1),), (), (0, 2, 2))
        self.assertIs(prices_hold(plant, ((5,), ()), ((3,),), (1,)), True)
        self.assertIs(prices_hold(plant, ((5,), ()), ((3,),), (10**30,)), True)
        self.assertIs(prices_hold(plant, ((5,), ()), ((3,),), (0,)), False)

    def test_things_of_all_sorts(self):
        for plant, story, firing in DAYS + ((TIGHT, TIGHT_STORY, TIGHT_FIRING),):
            for thing in strange_things() + misshapen(TIGHT_PRICES):
                self.assertIs(prices_hold(plant, story, firing, thing), False, thing)

    def test_none_of_the_story(self):
        for thing in ((1, 5), (1, 5, 0, 0), (1, 5, -1), (1, 5, False), [1, 5, 0], (True, 5, 0), ((1, 5, 0),)):
            self.assertIs(prices_hold(TIGHT, TIGHT_STORY, TIGHT_FIRING, thing), False)

    def test_a_firing_that_does_not_keep_up_is_refused(self):
        for firing in (((2, 0), (3, 1), (0, 0)), ((0, 0), (0, 0), (0, 0)), ((3, 4), (0, 0), (3, 4))):
            for thing in (TIGHT_PRICES, None, [], (0, 0, 0)):
                with self.assertRaises(NoFiring):
                    prices_hold(TIGHT, TIGHT_STORY, firing, thing)
        with self.assertRaises(NoFiring):
            prices_hold(SHORT, SHORT_STORY, full_firing(SHORT, SHORT_STORY), (0, 0, 0))
        with self.assertRaises(NoStory):
            prices_hold(TIGHT, None, ((0, 0), (0, 0), (0, 0)), (0, 0, 0))


if __name__ == "__main__":
    unittest.main()
