"""Plants, the stories of a plant, and the firings of both."""

from mainfires.errors import NoBoiler, NoFiring, NoHour, NoPlant, NoStory
from mainfires.shapes import is_tuple_of, is_whole_from

MOST_BOILERS = 4
MOST_ENGINES = 4
MOST_FAULTS = 4
MOST_HOURS = 8
MOST_UNITS = 9
MOST_EXTRA = 20
MOST_IN_MAIN = 40


def is_plant(thing):
    """Whether it is a plant."""
    if not is_tuple_of(thing, 3, 3):
        return False
    boilers, engines, main = thing
    return are_boilers(boilers) and are_engines(engines) and is_main(main)


def are_boilers(thing):
    """Whether it is what a plant has for its boilers."""
    return is_tuple_of(thing, 1, MOST_BOILERS) and all([is_make_and_coal(part) for part in thing])


def is_make_and_coal(thing):
    """Whether it is what a plant has for one of its boilers."""
    if not is_tuple_of(thing, 2, 2):
        return False
    make, coal = thing
    return is_whole_from(make, 1, MOST_UNITS) and is_whole_from(coal, 1, MOST_UNITS)


def are_engines(thing):
    """Whether it is what a plant has for its engines."""
    return is_tuple_of(thing, 0, MOST_ENGINES) and all([is_engine(part) for part in thing])


def is_engine(thing):
    """Whether it is what a plant has for one of its engines."""
    if not is_tuple_of(thing, 3, 3):
        return False
    draw, first, every = thing
    return (
        is_whole_from(draw, 1, MOST_UNITS)
        and is_whole_from(first, 0, MOST_HOURS - 1)
        and is_whole_from(every, 1, MOST_HOURS)
    )


def is_main(thing):
    """Whether it is what a plant has for its main."""
    if not is_tuple_of(thing, 3, 3):
        return False
    low, high, start = thing
    return is_whole_from(high, 0, MOST_IN_MAIN) and is_whole_from(start, 0, high) and is_whole_from(low, 0, start)


def need_plant(plant):
    """Refuse what is no plant."""
    if not is_plant(plant):
        raise NoPlant("no plant")


def is_story(plant, thing):
    """Whether it is a story of the plant."""
    need_plant(plant)
    if not is_tuple_of(thing, 2, 2):
        return False
    extra, faults = thing
    return (
        is_tuple_of(extra, 1, MOST_HOURS)
        and all([is_whole_from(units, 0, MOST_EXTRA) for units in extra])
        and is_tuple_of(faults, 0, MOST_FAULTS)
        and all([is_fault(part, len(plant[0]), len(extra)) for part in faults])
    )


def is_fault(thing, boilers, hours):
    """Whether it is a fault among so many boilers in so many hours."""
    if not is_tuple_of(thing, 4, 4):
        return False
    boiler, word, first, last = thing
    return (
        is_whole_from(boiler, 0, boilers - 1)
        and word in ("out", "scaled")
        and is_whole_from(last, 0, hours - 1)
        and is_whole_from(first, 0, last)
    )


def need_story(plant, story):
    """Refuse what is no plant, then what is no story of it."""
    if not is_story(plant, story):
        raise NoStory("no story of this plant")


def caps_of(plant, story):
    """For each hour the tuple of what each boiler can make in it."""
    need_story(plant, story)
    extra, faults = story
    return tuple([caps_in(plant[0], faults, hour) for hour in range(len(extra))])


def caps_in(boilers, faults, hour):
    """What each boiler can make in the hour."""
    return tuple([cap_under(words_for(faults, at, hour), make) for at, (make, coal) in enumerate(boilers)])


def words_for(faults, boiler, hour):
    """The words that the faults have for the boiler in the hour."""
    return [word for at, word, first, last in faults if at == boiler and first <= hour <= last]


def cap_under(words, make):
    """What a boiler of that make can make under these words."""
    if "out" in words:
        return 0
    if "scaled" in words:
        return make // 2
    return make


def draws_of(plant, story):
    """What is drawn in each hour, by the engines and besides."""
    need_story(plant, story)
    engines = plant[1]
    return tuple(
        [units + sum([drawn_by(engine, hour) for engine in engines]) for hour, units in enumerate(story[0])]
    )


def drawn_by(engine, hour):
    """What the engine draws in the hour."""
    draw, first, every = engine
    if hour < first or (hour - first) % every != 0:
        return 0
    return draw


def need_hour(story, hour):
    """Refuse what is no hour of the story."""
    if not is_whole_from(hour, 0, len(story[0]) - 1):
        raise NoHour("no hour of this story")


def need_boiler(plant, boiler):
    """Refuse what is no boiler of the plant."""
    if not is_whole_from(boiler, 0, len(plant[0]) - 1):
        raise NoBoiler("no boiler of this plant")


def terms_of(plant, story):
    """What all firings of both hang on: the tuple (caps, coals, draws, main)."""
    # A unit more, or all boilers but one out, may be beyond any plant and story, so such is asked of changed terms.
    caps = caps_of(plant, story)
    coals = tuple([coal for make, coal in plant[0]])
    return caps, coals, draws_of(plant, story), plant[2]


def is_firing(plant, story, thing):
    """Whether it is a firing of the plant and the story."""
    return is_firing_within(caps_of(plant, story), thing)


def is_firing_within(caps, thing):
    """Whether it is a firing where the boilers can make so much in each hour."""
    return is_tuple_of(thing, len(caps), len(caps)) and all([is_row(part, row) for part, row in zip(thing, caps)])


def is_row(thing, caps):
    """Whether it is a firing's row of an hour in which the boilers can make so much."""
    return is_tuple_of(thing, len(caps), len(caps)) and all(
        [is_whole_from(part, 0, cap) for part, cap in zip(thing, caps)]
    )


def need_firing(plant, story, firing):
    """Refuse what is no plant, then what is no story of it, then what is no firing of both."""
    if not is_firing(plant, story, firing):
        raise NoFiring("no firing of this plant and story")


def full_firing(plant, story):
    """The firing in which each boiler always makes all it can."""
    # A firing is bounded by the caps alone, so the caps themselves are the fullest one.
    return caps_of(plant, story)
