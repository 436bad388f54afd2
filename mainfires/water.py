"""Water: tanks, the feedings of a pump, and the hour that shows that the pump can't do."""

from mainfires.errors import NoFeeding, NoPump, NoTanks
from mainfires.kinds import need_firing, need_story
from mainfires.shapes import is_tuple_of, is_whole, is_whole_from

MOST_WATER = 60
MOST_PUMPED = 40


def are_tanks(boilers, thing):
    """Whether it is tanks of so many boilers."""
    return is_tuple_of(thing, boilers, boilers) and all([is_tank(part) for part in thing])


def is_tank(thing):
    """Whether it is what tanks have for one boiler."""
    if not is_tuple_of(thing, 2, 2):
        return False
    water, mark = thing
    return is_whole_from(water, 0, MOST_WATER) and is_whole_from(mark, 0, water)


def need_tanks(plant, story, firing, tanks):
    """Refuse what is no plant, no story, no firing of both, then what is no tanks of the plant."""
    need_firing(plant, story, firing)
    if not are_tanks(len(plant[0]), tanks):
        raise NoTanks("no tanks of this plant")


def need_pump(pump):
    """Refuse what is no pump."""
    if not is_whole_from(pump, 0, MOST_PUMPED):
        raise NoPump("no pump")


def is_feeding(plant, story, pump, thing):
    """Whether it is a feeding by the pump."""
    need_story(plant, story)
    need_pump(pump)
    hours = len(story[0])
    return is_tuple_of(thing, hours, hours) and all([is_fed_row(len(plant[0]), pump, part) for part in thing])


def is_fed_row(boilers, pump, thing):
    """Whether it is a feeding's row of an hour."""
    return (
        is_tuple_of(thing, boilers, boilers)
        and all([is_whole_from(part, 0, pump) for part in thing])
        and sum(thing) <= pump
    )


def water_at(plant, story, firing, tanks, pump, feeding):
    """The list of tuples of what each boiler has at the end of each hour, perhaps below 0."""
    need_tanks(plant, story, firing, tanks)
    # What is no pump is refused by the looker.
    if not is_feeding(plant, story, pump, feeding):
        raise NoFeeding("no feeding by this pump")
    return water_left(firing, tanks, feeding)


def water_left(firing, tanks, feeding):
    """What water_at tells, of what was looked at."""
    left = tuple([water for water, mark in tanks])
    told = []
    for row, fed in zip(firing, feeding):
        left = tuple([water + more - taken for water, more, taken in zip(left, fed, row)])
        told.append(left)
    return told


def dry_at(plant, story, firing, tanks, pump, feeding):
    """The least tuple (hour, boiler) that is below its mark, None where none is."""
    rows = water_at(plant, story, firing, tanks, pump, feeding)
    found = [
        (hour, boiler)
        for hour, row in enumerate(rows)
        for boiler, (water, (full, mark)) in enumerate(zip(row, tanks))
        if water < mark
    ]
    return found[0] if found else None


def lacks_of(firing, tanks):
    """For each hour the tuple of what each boiler lacks to its mark at its end, without any feeding."""
    # Without any feeding the water only falls, so at no hour ahead a boiler lacks more.
    nothing = [[0 for tank in tanks] for row in firing]
    rows = water_left(firing, tanks, nothing)
    return [tuple([max(mark - water, 0) for water, (full, mark) in zip(row, tanks)]) for row in rows]


def dry_hour(lacks, pump):
    """The least hour up to which more must be fed than the pump feeds, None where there is none."""
    found = [hour for hour, row in enumerate(lacks) if sum(row) > pump * (hour + 1)]
    return found[0] if found else None


def feeding_for(lacks, pump):
    """A feeding by which nothing lacks at any hour's end, where there is no dry hour."""
    boilers = list(range(len(lacks[0])))
    ahead = [tuple([0 for boiler in boilers])] + lacks[:-1]
    # The pump always feeds what is due first, so where this comes too late all does.
    due = [
        boiler
        for row, before in zip(lacks, ahead)
        for boiler in boilers
        for unit in range(row[boiler] - before[boiler])
    ]
    turns = [due[pump * hour : pump * (hour + 1)] for hour in range(len(lacks))]
    return tuple([tuple([turn.count(boiler) for boiler in boilers]) for turn in turns])


def feeds(plant, story, firing, tanks, pump):
    """A paper: a feeding by which none is below its mark, or the least hour that shows that there is none."""
    need_tanks(plant, story, firing, tanks)
    need_pump(pump)
    lacks = lacks_of(firing, tanks)
    hour = dry_hour(lacks, pump)
    return ("fed", feeding_for(lacks, pump)) if hour is None else ("dry", hour)


def feeds_holds(plant, story, firing, tanks, pump, thing):
    """Whether it is such a paper, with any feeding by which none is below its mark."""
    need_tanks(plant, story, firing, tanks)
    need_pump(pump)
    if not is_tuple_of(thing, 2, 2):
        return False
    word, shown = thing
    if word == "dry":
        # By == alone a truth would pass for the hour 0 or 1.
        return is_whole(shown) and shown == dry_hour(lacks_of(firing, tanks), pump)
    return (
        word == "fed"
        and is_feeding(plant, story, pump, shown)
        and dry_at(plant, story, firing, tanks, pump, shown) is None
    )


def least_pump(plant, story, firing, tanks):
    """The least pump by which there is a feeding."""
    need_tanks(plant, story, firing, tanks)
    # What lacks by an hour's end is fed in all hours up to it, so a pump feeds its part of it, rounded up, in each.
    return max([(sum(row) + hour) // (hour + 1) for hour, row in enumerate(lacks_of(firing, tanks))])
