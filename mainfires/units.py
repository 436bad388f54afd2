"""What a unit more or less is worth: by how much the least coal grows or falls."""

from mainfires.errors import NoWay
from mainfires.kinds import need_boiler, need_hour, terms_of
from mainfires.least import coal_under
from mainfires.shapes import replaced


def coal_or_refuse(terms):
    """The least coal under these terms; refuse those under which no firing keeps up."""
    coal = coal_under(terms)
    if coal is None:
        raise NoWay("no firing keeps up")
    return coal


def added(row, at, units):
    """The row with so many units added in that place."""
    return replaced(row, at, row[at] + units)


def more_drawn(plant, story, hour):
    """By how much the least coal grows where a unit more is drawn in the hour, None where no firing keeps up then."""
    terms = terms_of(plant, story)
    need_hour(story, hour)
    coal = coal_or_refuse(terms)
    caps, coals, draws, main = terms
    grown = coal_under((caps, coals, added(draws, hour, 1), main))
    return None if grown is None else grown - coal


def less_drawn(plant, story, hour):
    """By how much the least coal falls where a unit less is drawn in the hour, None where nothing is drawn in it."""
    terms = terms_of(plant, story)
    need_hour(story, hour)
    coal = coal_or_refuse(terms)
    caps, coals, draws, main = terms
    if draws[hour] == 0:
        return None
    return coal - coal_under((caps, coals, added(draws, hour, -1), main))


def wider(plant, story):
    """By how much the least coal falls where high is one unit more."""
    terms = terms_of(plant, story)
    coal = coal_or_refuse(terms)
    caps, coals, draws, (low, high, start) = terms
    return coal - coal_under((caps, coals, draws, (low, high + 1, start)))


def lower(plant, story):
    """By how much the least coal falls where low is one unit less, None where low is 0."""
    terms = terms_of(plant, story)
    coal = coal_or_refuse(terms)
    caps, coals, draws, (low, high, start) = terms
    if low == 0:
        return None
    return coal - coal_under((caps, coals, draws, (low - 1, high, start)))


def fuller(plant, story):
    """By how much the least coal falls where start is one unit more, None where it is high."""
    terms = terms_of(plant, story)
    coal = coal_or_refuse(terms)
    caps, coals, draws, (low, high, start) = terms
    if start == high:
        return None
    return coal - coal_under((caps, coals, draws, (low, high, start + 1)))


def better(plant, story, boiler, hour):
    """By how much the least coal falls where the boiler can make one unit more in the hour."""
    terms = terms_of(plant, story)
    need_boiler(plant, boiler)
    need_hour(story, hour)
    coal = coal_or_refuse(terms)
    caps, coals, draws, main = terms
    grown = replaced(caps, hour, added(caps[hour], boiler, 1))
    return coal - coal_under((grown, coals, draws, main))
