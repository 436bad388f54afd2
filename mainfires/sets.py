"""The fewest boilers with which some firing keeps up, and what shows that fewer don't do."""

from mainfires.days import keeps_up
from mainfires.errors import NoSet
from mainfires.kinds import is_firing_within, terms_of
from mainfires.least import coal_under
from mainfires.shapes import is_rising, is_tuple_of, is_whole_from
from mainfires.stretches import is_short_paper, is_shown, least_stretch


def is_set(boilers, thing):
    """Whether it is a set of so many boilers."""
    return (
        is_tuple_of(thing, 0, boilers)
        and all([is_whole_from(part, 0, boilers - 1) for part in thing])
        and is_rising(thing)
    )


def sets_of(boilers, many):
    """The sets of so many of the boilers, as sets rise."""
    found = [()]
    for step in range(many):
        found = [chosen + (boiler,) for chosen in found for boiler in range(first_behind(chosen), boilers)]
    return found


def first_behind(chosen):
    """The first boiler that may stand behind those of the set."""
    return chosen[-1] + 1 if chosen else 0


def with_only(terms, chosen):
    """The terms where all boilers but the chosen ones can make nothing."""
    caps, coals, draws, main = terms
    kept = tuple([tuple([cap if boiler in chosen else 0 for boiler, cap in enumerate(row)]) for row in caps])
    return kept, coals, draws, main


def does(terms, chosen):
    """Whether some firing does with the set."""
    return least_stretch(with_only(terms, chosen)) is None


def smaller_sets(boilers, chosen):
    """The sets of one boiler fewer than the chosen one, as sets rise; none where it is ()."""
    return sets_of(boilers, len(chosen) - 1) if chosen else []


def fewest(plant, story):
    """A paper: the least set of the fewest boilers with which some firing does, with what shows that fewer don't.

    Or the least stretch that shows that no firing keeps up.
    """
    terms = terms_of(plant, story)
    stretch = least_stretch(terms)
    if stretch is not None:
        return ("short",) + stretch
    boilers = len(plant[0])
    sets = [some for many in range(boilers + 1) for some in sets_of(boilers, many) if does(terms, some)]
    chosen = sets[0]
    # Where some firing does with the set, the one in which its boilers make all they can does.
    firing, coals, draws, main = with_only(terms, chosen)
    shows = [least_stretch(with_only(terms, fewer)) for fewer in smaller_sets(boilers, chosen)]
    return "lit", chosen, firing, tuple(shows)


def fewest_holds(plant, story, thing):
    """Whether it is such a paper, with any set of that many, any firing that does with it, any stretches that show."""
    terms = terms_of(plant, story)
    return is_short_paper(terms, thing) or is_lit_paper(plant, story, thing)


def is_lit_paper(plant, story, thing):
    """Whether it is a paper ("lit", set, firing, shows) that holds."""
    if not is_tuple_of(thing, 4, 4):
        return False
    terms = terms_of(plant, story)
    boilers = len(plant[0])
    word, chosen, firing, shows = thing
    # The sets of still fewer boilers need no stretches: what shows it of a set shows it of each within it.
    return (
        word == "lit"
        and is_set(boilers, chosen)
        and is_firing_within(with_only(terms, chosen)[0], firing)
        and keeps_up(plant, story, firing)
        and are_shown(terms, smaller_sets(boilers, chosen), shows)
    )


def are_shown(terms, sets, thing):
    """Whether it is a tuple of stretches that show of each of the sets that no firing does with it."""
    return is_tuple_of(thing, len(sets), len(sets)) and all(
        [is_shown(with_only(terms, chosen), part) for chosen, part in zip(sets, thing)]
    )


def alone(plant, story, chosen):
    """The least coal where all boilers but the chosen ones can make nothing, None where no firing keeps up then."""
    terms = terms_of(plant, story)
    if not is_set(len(plant[0]), chosen):
        raise NoSet("no set of this plant's boilers")
    return coal_under(with_only(terms, chosen))


def needed(plant, story):
    """The rising tuple of the boilers without which no firing keeps up."""
    terms = terms_of(plant, story)
    boilers = len(plant[0])
    return tuple([boiler for boiler in range(boilers) if not does(terms, without(boilers, boiler))])


def without(boilers, boiler):
    """The set of all the boilers but one."""
    return tuple([other for other in range(boilers) if other != boiler])
