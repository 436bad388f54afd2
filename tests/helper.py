"""Plants, stories, firings and things of all sorts that the tests hand in, and plain ways to reckon what is due."""

import itertools
import random

from mainfires import days, dials, kinds, least, outs, sets, shifts, stretches, texts, units, water
from mainfires.errors import NoBoiler, NoBook, NoFeeding, NoFiring, NoHour, NoPlant, NoPrices, NoPump, NoReadings
from mainfires.errors import NoSet, NoShifts, NoStart, NoStory, NoTanks, NoText

ONE = (((5, 2),), (), (0, 10, 5))
ONE_STORY = ((3, 4, 5), ())
ONE_FIRING = ((3,), (4,), (5,))

TWO = (((6, 2), (3, 5)), ((4, 0, 2), (2, 1, 3)), (2, 12, 6))
TWO_STORY = ((1, 0, 3, 2), ((0, "scaled", 1, 2), (1, "out", 2, 3)))
TWO_FIRING = ((6, 3), (3, 0), (2, 0), (6, 0))

WIDE = (
    ((9, 9), (1, 1), (5, 3), (8, 2)),
    ((9, 0, 1), (1, 7, 8), (2, 3, 2), (5, 7, 1)),
    (0, 40, 40),
)
WIDE_STORY = (
    (0, 20, 1, 2, 0, 3, 4, 5),
    ((0, "out", 0, 3), (0, "scaled", 2, 5), (3, "scaled", 7, 7), (1, "scaled", 0, 7)),
)
WIDE_FIRING = (
    (0, 0, 5, 8),
    (0, 0, 5, 8),
    (0, 0, 0, 1),
    (0, 0, 5, 8),
    (4, 0, 0, 8),
    (4, 0, 5, 8),
    (9, 0, 5, 8),
    (9, 0, 5, 4),
)

DAYS = (
    (ONE, ONE_STORY, ONE_FIRING),
    (TWO, TWO_STORY, TWO_FIRING),
    (WIDE, WIDE_STORY, WIDE_FIRING),
)

# A plant whose main can't hold all that is cheap: reckoned by hand in the tests.
TIGHT = (((3, 1), (4, 5)), (), (1, 4, 2))
TIGHT_STORY = ((0, 8, 0), ())

# No firing keeps up; shown by (0, 2) and by (2, 2).
SHORT = (((2, 1),), (), (0, 5, 5))
SHORT_STORY = ((6, 0, 8), ())

# The bounds that the document names, each with a plant and a story at it.
EDGES = (
    ("low of 0", (((2, 3),), (), (0, 4, 1)), ((2, 1), ())),
    ("start at high", (((2, 3), (1, 1)), (), (1, 4, 4)), ((5, 0, 4), ())),
    ("low, high and start at one", (((3, 3), (2, 1)), (), (4, 4, 4)), ((5, 0, 4), ())),
    ("a main that holds nothing", (((3, 3), (2, 1)), (), (0, 0, 0)), ((5, 0, 4), ())),
    ("a main that holds nothing, short", (((3, 3), (2, 1)), (), (0, 0, 0)), ((5, 0, 6), ())),
    ("nothing drawn", (((2, 3),), (), (0, 4, 1)), ((0, 0, 0), ())),
    ("nothing drawn ahead of the last hour", (((2, 1),), ((9, 7, 1),), (0, 40, 0)), ((0,) * 8, ())),
    ("drawn by an engine alone", (((5, 4), (5, 2)), ((9, 1, 2),), (0, 3, 0)), ((0,) * 5, ())),
    ("out in one hour", (((4, 1), (4, 9)), (), (0, 3, 0)), ((2, 4, 2), ((0, "out", 1, 1),))),
    ("all out", (((4, 1), (4, 9)), (), (0, 9, 9)), ((2, 3, 4), ((0, "out", 0, 2), (1, "out", 0, 2)))),
    ("all out, short", (((4, 1), (4, 9)), (), (0, 9, 9)), ((2, 4, 4), ((0, "out", 0, 2), (1, "out", 0, 2)))),
    ("scaled", (((5, 1), (4, 9)), (), (0, 3, 0)), ((2, 4, 3), ((0, "scaled", 1, 2), (1, "scaled", 1, 2)))),
    ("scaled to nothing", (((1, 1), (1, 2)), (), (0, 2, 1)), ((1, 1, 1), ((0, "scaled", 0, 2),))),
    ("out and scaled", (((5, 1), (4, 9)), (), (1, 3, 1)), ((2, 2), ((0, "scaled", 0, 1), (0, "out", 1, 1)))),
    ("one hour", (((5, 1), (4, 9)), (), (1, 3, 1)), ((7,), ())),
    ("one hour, short", (((5, 1), (4, 9)), (), (1, 3, 1)), ((10,), ())),
    ("one boiler", (((9, 9),), (), (0, 40, 0)), ((9, 0, 18), ())),
    ("boilers of the same coal", (((2, 3), (2, 3), (2, 3)), (), (0, 5, 2)), ((1, 7, 6), ())),
    ("all at their most", (((9, 9),) * 4, ((9, 0, 1),) * 4, (40, 40, 40)), ((0,) * 8, ())),
    ("all beyond their most", (((9, 9),) * 4, ((9, 0, 1),) * 4, (40, 40, 40)), ((0,) * 7 + (1,), ())),
    ("all at their least", (((1, 1),), (), (0, 0, 0)), ((0,), ())),
    ("the most drawn besides", (((9, 2), (9, 1), (9, 3)), (), (0, 40, 40)), ((20,) * 8, ())),
)

# What each function takes, by the names of the interface, and what it refuses these with.
REFUSALS = {
    "plant": NoPlant,
    "story": NoStory,
    "firing": NoFiring,
    "prices": NoPrices,
    "hour": NoHour,
    "boiler": NoBoiler,
    "chosen": NoSet,
    "tanks": NoTanks,
    "pump": NoPump,
    "feeding": NoFeeding,
    "readings": NoReadings,
    "start": NoStart,
    "shifts": NoShifts,
    "book": NoBook,
    "text": NoText,
}
CALLS = (
    (kinds.is_plant, ("thing",)),
    (kinds.is_story, ("plant", "thing")),
    (kinds.is_firing, ("plant", "story", "thing")),
    (kinds.caps_of, ("plant", "story")),
    (kinds.draws_of, ("plant", "story")),
    (kinds.full_firing, ("plant", "story")),
    (days.course, ("plant", "story", "firing")),
    (days.falls_at, ("plant", "story", "firing")),
    (days.keeps_up, ("plant", "story", "firing")),
    (days.coal_of, ("plant", "story", "firing")),
    (days.steam_by, ("plant", "story", "firing")),
    (days.banked, ("plant", "story", "firing")),
    (days.books_right, ("plant", "story", "firing", "thing")),
    (least.floor_of, ("plant", "story", "prices")),
    (least.cheapest, ("plant", "story")),
    (least.cheapest_holds, ("plant", "story", "thing")),
    (least.prices_hold, ("plant", "story", "firing", "thing")),
    (least.least_coal, ("plant", "story")),
    (stretches.stretch_holds, ("plant", "story", "thing")),
    (stretches.stretch_of, ("plant", "story")),
    (stretches.fullest, ("plant", "story")),
    (stretches.leanest, ("plant", "story")),
    (units.more_drawn, ("plant", "story", "hour")),
    (units.less_drawn, ("plant", "story", "hour")),
    (units.wider, ("plant", "story")),
    (units.lower, ("plant", "story")),
    (units.fuller, ("plant", "story")),
    (units.better, ("plant", "story", "boiler", "hour")),
    (sets.fewest, ("plant", "story")),
    (sets.fewest_holds, ("plant", "story", "thing")),
    (sets.alone, ("plant", "story", "chosen")),
    (sets.needed, ("plant", "story")),
    (outs.least_moved, ("plant", "story", "firing", "boiler", "hour")),
    (outs.moved, ("plant", "story", "firing", "boiler", "hour")),
    (outs.moved_by, ("plant", "story", "firing", "boiler", "hour", "thing")),
    (outs.outs_let, ("plant", "story", "firing", "boiler")),
    (water.is_feeding, ("plant", "story", "pump", "thing")),
    (water.water_at, ("plant", "story", "firing", "tanks", "pump", "feeding")),
    (water.dry_at, ("plant", "story", "firing", "tanks", "pump", "feeding")),
    (water.feeds, ("plant", "story", "firing", "tanks", "pump")),
    (water.feeds_holds, ("plant", "story", "firing", "tanks", "pump", "thing")),
    (water.least_pump, ("plant", "story", "firing", "tanks")),
    (dials.is_readings, ("thing",)),
    (dials.agree, ("readings", "start")),
    (dials.off_dials, ("readings", "start")),
    (shifts.shift_coal, ("plant", "story", "firing", "shifts")),
    (shifts.lacking, ("plant", "story", "firing", "shifts", "book")),
    (texts.firing_text, ("plant", "story", "firing")),
    (texts.firing_read, ("plant", "story", "text")),
)


def right_things(day):
    """A right thing for each name that the interface has."""
    plant, story, firing = day
    hours = len(story[0])
    boilers = len(plant[0])
    return {
        "plant": plant,
        "story": story,
        "firing": firing,
        "prices": tuple(range(hours)),
        "hour": hours - 1,
        "boiler": boilers - 1,
        "chosen": tuple(range(boilers)),
        "tanks": tuple((20 + boiler, 5 * boiler) for boiler in range(boilers)),
        "pump": 14,
        "feeding": (tuple(range(2, 2 + boilers)),) * hours,
        "readings": ((5, 1, 2, 0, 10), (3, 1, 2, 0, 12), (3, 0, 2, 1, 12)),
        "start": 5,
        "shifts": (0, hours - 1),
        "book": (7, 0),
        "text": hand_text(firing),
        "thing": None,
    }


def is_right(name, day, thing):
    """Whether the thing is right by that name, of the names of which some strange things are, with the day's others."""
    plant, story, firing = day
    hours = len(story[0])
    boilers = len(plant[0])
    if name == "hour":
        return type(thing) is int and 0 <= thing < hours
    if name == "boiler":
        return type(thing) is int and 0 <= thing < boilers
    if name == "prices":
        return type(thing) is tuple and len(thing) == hours and all(type(each) is int and each >= 0 for each in thing)
    if name == "chosen":
        return kind_and_value(thing) in [kind_and_value(chosen) for chosen in all_sets(boilers)]
    if name in ("pump", "start"):
        return type(thing) is int and 0 <= thing <= 40
    if name == "readings":
        return is_read(thing)
    if name == "shifts":
        return kind_and_value(thing) in [kind_and_value((0,) + rest) for rest in all_sets(hours) if 0 not in rest]
    if name == "book":
        return type(thing) is tuple and len(thing) == 2 and all(type(each) is int and each >= 0 for each in thing)
    if name == "text":
        return thing == hand_text(firing)
    return False


def hand_text(firing):
    """The firing's text, sign by sign."""
    text = ""
    for hour, row in enumerate(firing):
        text += "/" if hour > 0 else ""
        for boiler, made in enumerate(row):
            text += " " if boiler > 0 else ""
            text += "0123456789"[made]
    return text


def is_read(thing):
    """Whether it is readings."""
    rows = thing if type(thing) is tuple and 1 <= len(thing) <= 8 else (None,)
    if any(type(row) is not tuple or len(row) not in (4, 5, 6, 7) or len(row) != len(rows[0]) for row in rows):
        return False
    return all(type(part) is int and -99 <= part <= 99 for row in rows for part in row)


def all_sets(boilers):
    """All sets of so many boilers, those of fewer ahead, each number of them as sets rise."""
    return [chosen for many in range(boilers + 1) for chosen in itertools.combinations(range(boilers), many)]


def deep(wrap):
    """A thing ten deep, each within the next by wrap."""
    thing = wrap(0)
    for step in range(9):
        thing = wrap(thing)
    return thing


def strange_things():
    """New things of all the sorts that may be handed in; none is a plant, a story, a firing, or course's list."""
    return [
        None, True, False, 0, 1, -1, 7, 40, 10**31 - 1, -(10**31 - 1),
        "", " ", "out", "scaled", "0", "((5, 2),)", "\t\n", "~" * 500,
        [], (), {}, [None], (None,), {None: None}, [True], (True,), (False,), {True: False},
        [0], (0,), (0, 0), (0, 0, 0), (0, 0, 0, 0), ("a", "b"), "ab", "abc", "abcd",
        ((),), ((), ()), ((), (), ()), [[]], [()], ([],), ({},), {(): []}, {0: 0, 1: 1, 2: 2}, {"a": [1, {"b": (2,)}]},
        [(0, 0, 0, 0, 0)], [(0, 0)], [None, (1, 2, 3, 4)],
        deep(lambda thing: [thing]), deep(lambda thing: (thing,)), deep(lambda thing: {"a": thing}),
        [0] * 3000, (0,) * 3000, ((0,),) * 1500, dict.fromkeys(range(1500), "x"),
    ]  # fmt: skip


def as_lists(thing):
    """The same with lists in the place of all tuples."""
    if isinstance(thing, tuple):
        return [as_lists(part) for part in thing]
    return thing


def places(thing):
    """The path of each place within the tuples and lists of it, those of tuples and lists too, but not ()."""
    found = []
    if isinstance(thing, (tuple, list)):
        for at, part in enumerate(thing):
            found.append((at,))
            found.extend([(at,) + path for path in places(part)])
    return found


def part_at(thing, path):
    """What stands in that place."""
    for at in path:
        thing = thing[at]
    return thing


def put(thing, path, part):
    """The same with part in that place; () is the place of the whole."""
    if path == ():
        return part
    parts = list(thing)
    parts[path[0]] = put(parts[path[0]], path[1:], part)
    return parts if isinstance(thing, list) else tuple(parts)


def misshapen(thing):
    """The thing with one place of it wrong: lists for tuples, parts left out, too many or none, parts of other sorts.

    Of numbers it puts only what no bound lets.
    """
    found = []
    for path in [()] + places(thing):
        part = part_at(thing, path)
        if isinstance(part, (tuple, list)):
            found.extend([put(thing, path, wrong) for wrong in (None, True, 0, "", {}, as_lists(tuple(part)))])
            if part:
                found.append(put(thing, path, dict(enumerate(part))))
        else:
            found.extend([put(thing, path, wrong) for wrong in (None, True, False, "1", "", -1, 99, (), (1,), [1], {})])
    return [each for each in found if kind_and_value(each) != kind_and_value(thing)]


def kind_and_value(thing):
    """What tells apart all that Python's == holds for the same, as 1 and True."""
    return repr(thing)


def chance_stories(many):
    """So many plants, each with a story, of all sizes; the same at each call."""
    chance = random.Random(20)
    found = []
    for turn in range(many):
        boilers = tuple((chance.randint(1, 9), chance.randint(1, 9)) for each in range(chance.randint(1, 4)))
        engines = tuple(
            (chance.randint(1, 9), chance.randint(0, 7), chance.randint(1, 8)) for each in range(chance.randint(0, 2))
        )
        high = chance.choice((chance.randint(0, 40), chance.randint(0, 6)))
        start = chance.randint(0, high)
        low = chance.choice((0, chance.randint(0, start)))
        hours = chance.randint(1, 8)
        extra = tuple(chance.choice((0, chance.randint(0, 6), chance.randint(0, 20))) for hour in range(hours))
        faults = []
        for each in range(chance.randint(0, 4)):
            first = chance.randint(0, hours - 1)
            word = chance.choice(("out", "scaled"))
            faults.append((chance.randint(0, len(boilers) - 1), word, first, chance.randint(first, hours - 1)))
        found.append(((boilers, engines, (low, high, start)), (extra, tuple(faults))))
    return found


def all_stories():
    """Plants, each with a story: at the bounds, by hand and by chance."""
    told = [(plant, story) for name, plant, story in EDGES] + [(plant, story) for plant, story, firing in DAYS]
    return told + [(TIGHT, TIGHT_STORY), (SHORT, SHORT_STORY)] + chance_stories(120)


def hand_terms(plant, story):
    """What both come to, as lists that may be changed: caps, coals, draws and main."""
    caps = [list(row) for row in kinds.caps_of(plant, story)]
    return {
        "caps": caps,
        "coals": [coal for make, coal in plant[0]],
        "draws": list(kinds.draws_of(plant, story)),
        "main": list(plant[2]),
    }


def coal_for_units(row, coals):
    """The least coal for each number of units that can be made in an hour."""
    least_for = {0: 0}
    for cap, coal in zip(row, coals):
        sums = [(made + more, burnt + more * coal) for made, burnt in least_for.items() for more in range(cap + 1)]
        least_for = {}
        for made, burnt in sums:
            least_for[made] = min(burnt, least_for.get(made, burnt))
    return least_for


def mains_reached(terms):
    """For each hour the mains at its end that some firing that didn't fall short has, each with the least coal."""
    low, high, start = terms["main"]
    reached = {start: 0}
    told = []
    for row, drawn in zip(terms["caps"], terms["draws"]):
        ways = [
            (min(main + made - drawn, high), coal + burnt)
            for main, coal in reached.items()
            for made, burnt in coal_for_units(row, terms["coals"]).items()
            if main + made - drawn >= low
        ]
        reached = {}
        for main, coal in ways:
            reached[main] = min(coal, reached.get(main, coal))
        told.append(reached)
    return told


def walked_coal(terms):
    """The least coal, found by walking through all mains, None where no firing keeps up."""
    return min(mains_reached(terms)[-1].values(), default=None)


def only_boilers(terms, chosen):
    """The same where all other boilers can make nothing."""
    caps = [[cap if boiler in chosen else 0 for boiler, cap in enumerate(row)] for row in terms["caps"]]
    return dict(terms, caps=caps)


def all_firings(plant, story):
    """All firings of both."""
    rows = [itertools.product(*[range(cap + 1) for cap in row]) for row in kinds.caps_of(plant, story)]
    return list(itertools.product(*rows))


def chance_firings(plant, story):
    """Firings of both that keep up: the full one, and such with units taken off, down to where none can be."""
    full = kinds.full_firing(plant, story)
    if not days.keeps_up(plant, story, full):
        return []
    chance = random.Random(7)
    found = [full]
    for tries in (5, 30, 200):
        firing = full
        for turn in range(tries):
            hour, boiler = chance.randrange(len(full)), chance.randrange(len(full[0]))
            fewer = put(firing, (hour, boiler), max(firing[hour][boiler] - 1, 0))
            if days.keeps_up(plant, story, fewer):
                firing = fewer
        found.append(firing)
    return found
