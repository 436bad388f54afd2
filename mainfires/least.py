"""The firing that burns the least coal, and the prices of the hours that show it."""

from mainfires.days import coal_of, keeps_up, need_keeping
from mainfires.errors import NoPrices
from mainfires.kinds import is_firing, terms_of
from mainfires.shapes import is_counts, is_tuple_of, is_whole
from mainfires.stretches import is_short_paper, least_stretch


def floor_of(plant, story, prices):
    """What, by these prices of the hours, each firing that keeps up burns at least."""
    terms = terms_of(plant, story)
    if not is_counts(prices, len(story[0])):
        raise NoPrices("no prices of this story")
    low, high, start = plant[2]
    behind = prices[1:] + (0,)
    parts = [floor_at(terms, hour, prices[hour], behind[hour]) for hour in range(len(prices))]
    return sum(parts) - prices[0] * start


def floor_at(terms, hour, price, behind):
    """What the hour brings to the floor by its price and the price of the hour behind it."""
    caps, coals, draws, (low, high, start) = terms
    spared = sum([cap * (coal - price) for cap, coal in zip(caps[hour], coals) if coal < price])
    kept = (price - behind) * (low if price > behind else high)
    return price * draws[hour] + spared + kept


def highest_floor(terms):
    """The highest floor by any prices where some firing keeps up, and some prices that have it."""
    caps, coals, draws, (low, high, start) = terms
    tails = {0: (0, ())}
    for hour in reversed(range(len(draws))):
        tails = tails_from(terms, hour, tails)
    return max([(floor - price * start, prices) for price, (floor, prices) in tails.items()])


def tails_from(terms, hour, tails):
    """For each price of the hour the highest floor of it and all behind it, with the prices from it on.

    The same of the hour behind it is handed in.
    """
    caps, coals, draws, main = terms
    # The floor bends only where a price is 0, a boiler's coal or the next price, so no others reach higher.
    return {
        price: max(
            [
                (floor_at(terms, hour, price, behind) + floor, (price,) + prices)
                for behind, (floor, prices) in tails.items()
            ]
        )
        for price in (0,) + coals
    }


def coal_under(terms):
    """The least coal under these terms, None where no firing keeps up."""
    if least_stretch(terms) is not None:
        return None
    floor, prices = highest_floor(terms)
    return floor


def least_firing(terms):
    """Some firing that burns the least; under the terms some firing must keep up."""
    caps, coals, draws, (low, high, start) = terms
    firing = [[0 for coal in coals] for row in caps]
    mains = [start - sum(draws[: hour + 1]) for hour in range(len(draws))]
    # What lacks in an hour is made where it burns the least, in it or ahead of it. Taken hour by hour no such choice is
    # to be mended: an hour gets nothing from those behind it, so what they lack makes no other choice cheaper.
    for hour in range(len(draws)):
        while mains[hour] < low:
            make_cheapest(terms, firing, mains, hour)
    return tuple([tuple(row) for row in firing])


def make_cheapest(terms, firing, mains, hour):
    """Make some of what lacks at the hour's end where it burns the least: in the firing, and into the mains."""
    caps, coals, draws, (low, high, start) = terms
    coal, at, boiler = min(
        [
            (coal, at, boiler)
            for at in range(hour + 1)
            for boiler, coal in enumerate(coals)
            if firing[at][boiler] < caps[at][boiler] and room_between(mains, high, at, hour) > 0
        ]
    )
    lacking = low - mains[hour]
    spare = caps[at][boiler] - firing[at][boiler]
    more = min(lacking, spare, room_between(mains, high, at, hour))
    firing[at][boiler] += more
    for later in range(at, len(mains)):
        mains[later] += more


def room_between(mains, high, first, hour):
    """How much more the main can hold from the end of the hour first till the given hour."""
    # What is made in the hour itself is not held: it is drawn at once.
    return min([high - main for main in mains[first:hour]], default=high - mains[hour])


def cheapest(plant, story):
    """A paper: a firing that burns the least, with prices that show it, or a stretch that shows that none keeps up."""
    terms = terms_of(plant, story)
    stretch = least_stretch(terms)
    if stretch is not None:
        return ("short",) + stretch
    coal, prices = highest_floor(terms)
    return "fired", coal, least_firing(terms), prices


def cheapest_holds(plant, story, thing):
    """Whether it is such a paper."""
    return is_short_paper(terms_of(plant, story), thing) or is_fired_paper(plant, story, thing)


def is_fired_paper(plant, story, thing):
    """Whether it is a paper ("fired", coal, firing, prices) that holds."""
    if not is_tuple_of(thing, 4, 4):
        return False
    word, coal, firing, prices = thing
    return (
        word == "fired"
        and is_firing(plant, story, firing)
        and keeps_up(plant, story, firing)
        and is_whole(coal)
        and coal == coal_of(plant, story, firing)
        and prices_hold(plant, story, firing, prices)
    )


def prices_hold(plant, story, firing, thing):
    """Whether it is prices that show that the firing, which must keep up, burns the least."""
    need_keeping(plant, story, firing)
    return is_counts(thing, len(story[0])) and floor_of(plant, story, thing) == coal_of(plant, story, firing)


def least_coal(plant, story):
    """The least coal that a firing burns that keeps up, None where none does."""
    return coal_under(terms_of(plant, story))
