"""A boiler that goes out: the firings moved from one that keeps up, and the least that must be moved."""

from mainfires.days import course, keeps_up, need_keeping
from mainfires.kinds import is_firing, need_boiler, need_hour, terms_of
from mainfires.shapes import replaced
from mainfires.stretches import least_mains, least_stretch


def need_boiler_of_keeping(plant, story, firing, boiler):
    """Refuse what is no plant, no story, no firing that keeps up, then what is no boiler."""
    need_keeping(plant, story, firing)
    need_boiler(plant, boiler)


def least_moved(plant, story, firing, boiler, hour):
    """How much is moved at least where the boiler is out from the hour on, None where nothing so moved keeps up."""
    told = moved(plant, story, firing, boiler, hour)
    return None if told is None else units_moved(firing, told, boiler, hour)


def moved(plant, story, firing, boiler, hour):
    """Some firing that is moved by just what least_moved tells, None likewise."""
    need_boiler_of_keeping(plant, story, firing, boiler)
    need_hour(story, hour)
    terms = terms_from(plant, story, firing, boiler, hour)
    if least_stretch(terms) is not None:
        return None
    return firing[:hour] + filled_up(terms, [replaced(row, boiler, 0) for row in firing[hour:]])


def terms_from(plant, story, firing, boiler, hour):
    """The terms of the hours from the given one on, the boiler out and the main as the firing leaves it."""
    caps, coals, draws, (low, high, start) = terms_of(plant, story)
    mains = [start] + [main for made, drawn, blown, main in course(plant, story, firing)]
    rows = tuple([replaced(row, boiler, 0) for row in caps[hour:]])
    return rows, coals, draws[hour:], (low, high, mains[hour])


def filled_up(terms, rows):
    """The rows with the fewest units more by which the main is kept up; under the terms it must be possible."""
    caps, coals, draws, (low, high, main) = terms
    told = []
    for row, most, drawn, least in zip(rows, caps, draws, least_mains(terms)):
        main += sum(row) - drawn
        # To make less helps nowhere, and more than what the hours behind can't make up for may be blown off.
        lacking = max(least - main, 0)
        told.append(raised(row, most, lacking))
        main = min(main + lacking, high)
    return tuple(told)


def raised(row, caps, units):
    """The row with so many units more, made by the first boilers that can."""
    told = []
    for made, cap in zip(row, caps):
        more = min(units, cap - made)
        told.append(made + more)
        units -= more
    return tuple(told)


def moved_by(plant, story, firing, boiler, hour, thing):
    """How much is moved where it is a firing so moved, None where it isn't."""
    need_boiler_of_keeping(plant, story, firing, boiler)
    need_hour(story, hour)
    if not is_firing(plant, story, thing) or not keeps_up(plant, story, thing):
        return None
    if thing[:hour] != firing[:hour] or any([row[boiler] > 0 for row in thing[hour:]]):
        return None
    return units_moved(firing, thing, boiler, hour)


def units_moved(firing, other, boiler, hour):
    """The units by which all boilers but the given one differ in both firings from the hour on."""
    return sum(
        [
            abs(made - units)
            for row, others in zip(firing[hour:], other[hour:])
            for at, (made, units) in enumerate(zip(row, others))
            if at != boiler
        ]
    )


def outs_let(plant, story, firing, boiler):
    """The rising list of the hours from which on the boiler may be out."""
    need_boiler_of_keeping(plant, story, firing, boiler)
    return [hour for hour in range(len(firing)) if moved(plant, story, firing, boiler, hour) is not None]
