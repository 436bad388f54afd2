"""Stretches of hours that show that no firing keeps up, and what the main can and may have."""

from mainfires.days import course
from mainfires.kinds import full_firing, terms_of
from mainfires.shapes import is_tuple_of, is_whole_from


def is_stretch(hours, thing):
    """Whether it is a stretch of so many hours."""
    if not is_tuple_of(thing, 2, 2):
        return False
    first, last = thing
    return is_whole_from(last, 0, hours - 1) and is_whole_from(first, 0, last)


def is_too_much(terms, stretch):
    """Whether more is drawn in the stretch than the main and the boilers can give."""
    caps, coals, draws, (low, high, start) = terms
    first, last = stretch
    ahead = start if first == 0 else high
    most = sum([sum(row) for row in caps[first : last + 1]])
    return ahead + most < sum(draws[first : last + 1]) + low


def is_shown(terms, thing):
    """Whether it is a stretch that shows that no firing keeps up."""
    caps, coals, draws, main = terms
    return is_stretch(len(draws), thing) and is_too_much(terms, thing)


def is_short_paper(terms, thing):
    """Whether it is a paper ("short", first, last) with a stretch that shows that no firing keeps up."""
    return is_tuple_of(thing, 3, 3) and thing[0] == "short" and is_shown(terms, thing[1:])


def least_stretch(terms):
    """The least stretch that shows that no firing keeps up, None where there is none."""
    caps, coals, draws, main = terms
    hours = len(draws)
    stretches = [(first, last) for first in range(hours) for last in range(first, hours)]
    found = [stretch for stretch in stretches if is_too_much(terms, stretch)]
    return found[0] if found else None


def stretch_holds(plant, story, thing):
    """Whether it is a stretch that shows that no firing keeps up."""
    return is_shown(terms_of(plant, story), thing)


def stretch_of(plant, story):
    """The least stretch that shows that no firing keeps up, None where some firing does."""
    return least_stretch(terms_of(plant, story))


def fullest(plant, story):
    """The most that the main can have at the end of each hour, till each firing has fallen short."""
    # No firing has ever more in the main than the one that makes all it can.
    rows = course(plant, story, full_firing(plant, story))
    return tuple([main for made, drawn, blown, main in rows])


def leanest(plant, story):
    """The least that the main may have at each hour's end so that the rest can keep up; None where no firing does."""
    terms = terms_of(plant, story)
    return None if least_stretch(terms) is not None else tuple(least_mains(terms))


def least_mains(terms):
    """The least that the main may have at each hour's end so that, by all that can be made, the rest keeps up."""
    caps, coals, draws, (low, high, start) = terms
    told = [low]
    for row, drawn in reversed(list(zip(caps[1:], draws[1:]))):
        told.append(max(low, told[-1] + drawn - sum(row)))
    return told[::-1]
