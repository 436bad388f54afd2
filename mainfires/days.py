"""How a day goes by a firing: the main hour by hour, the coal, the steam."""

from mainfires.errors import NoFiring
from mainfires.kinds import draws_of, need_firing
from mainfires.shapes import is_tuple_of, is_whole


def run_day(plant, story, firing):
    """The rows of the hours till the main falls short, and the tuple (hour, by) where it does, else None."""
    need_firing(plant, story, firing)
    low, high, main = plant[2]
    rows = []
    for hour, drawn in enumerate(draws_of(plant, story)):
        made = sum(firing[hour])
        main += made - drawn
        if main < low:
            return rows, (hour, low - main)
        blown = max(main - high, 0)
        main -= blown
        rows.append((made, drawn, blown, main))
    return rows, None


def course(plant, story, firing):
    """The list of tuples (made, drawn, blown, main) of the hours till the main falls short."""
    rows, short = run_day(plant, story, firing)
    return rows


def falls_at(plant, story, firing):
    """The first hour in which the main falls short and by how much, None where it never does."""
    rows, short = run_day(plant, story, firing)
    return short


def keeps_up(plant, story, firing):
    """Whether the main never falls short."""
    return falls_at(plant, story, firing) is None


def need_keeping(plant, story, firing):
    """Refuse what need_firing refuses, then a firing that doesn't keep up."""
    if not keeps_up(plant, story, firing):
        raise NoFiring("a firing that does not keep up")


def coal_of(plant, story, firing):
    """How much coal the firing burns, whether or not it keeps up."""
    made = steam_by(plant, story, firing)
    return sum([units * coal for units, (make, coal) in zip(made, plant[0])])


def steam_by(plant, story, firing):
    """The tuple of what each boiler makes in all."""
    need_firing(plant, story, firing)
    return tuple([sum([row[boiler] for row in firing]) for boiler in range(len(plant[0]))])


def banked(plant, story, firing):
    """The rising list of tuples (hour, boiler) of all that make nothing in that hour."""
    need_firing(plant, story, firing)
    return [(hour, boiler) for hour, row in enumerate(firing) for boiler, made in enumerate(row) if made == 0]


def books_right(plant, story, firing, thing):
    """Whether it is course's list of the firing."""
    rows = course(plant, story, firing)
    return (
        isinstance(thing, list)
        and len(thing) == len(rows)
        and all([is_same_row(part, row) for part, row in zip(thing, rows)])
    )


def is_same_row(thing, row):
    """Whether it is that row of whole numbers."""
    # By == alone a truth would pass for 0 or 1.
    return is_tuple_of(thing, len(row), len(row)) and all([is_whole(part) for part in thing]) and thing == row
