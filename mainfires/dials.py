"""Dials: whether what they read agrees, and which one reads off."""

from mainfires.errors import NoReadings, NoStart
from mainfires.kinds import MOST_BOILERS, MOST_HOURS, MOST_IN_MAIN
from mainfires.shapes import is_tuple_of, is_whole_from, replaced

MOST_READ = 99
# The dials behind those of the boilers: of the draw, the blown steam, and the main.
OTHER_DIALS = 3


def is_readings(thing):
    """Whether it is readings."""
    if not is_tuple_of(thing, 1, MOST_HOURS) or not is_tuple_of(thing[0], 1 + OTHER_DIALS, MOST_BOILERS + OTHER_DIALS):
        return False
    return all([is_row_of_readings(len(thing[0]), part) for part in thing])


def is_row_of_readings(dials, thing):
    """Whether it is readings of so many dials in an hour."""
    return is_tuple_of(thing, dials, dials) and all([is_whole_from(part, -MOST_READ, MOST_READ) for part in thing])


def need_readings_and_start(readings, start):
    """Refuse what is no readings, then what is no start."""
    if not is_readings(readings):
        raise NoReadings("no readings")
    if not is_whole_from(start, 0, MOST_IN_MAIN):
        raise NoStart("no start of a main")


def agree(readings, start):
    """Whether in each row made, less drawn and blown, is by how much the main grew."""
    need_readings_and_start(readings, start)
    return not any(gaps_of(readings, start))


def gaps_of(rows, start):
    """For each row made, less drawn and blown, less by how much the main grew."""
    mains = [start] + [row[-1] for row in rows]
    return [gap_of(row, ahead) for row, ahead in zip(rows, mains)]


def gap_of(row, ahead):
    """The gap of one row, by what the main had ahead of it."""
    *made, drawn, blown, main = row
    return sum(made) - drawn - blown - (main - ahead)


def off_dials(readings, start):
    """The rising list of tuples (dial, hour, off) such that all agree once off is taken from there on."""
    need_readings_and_start(readings, start)
    dials = len(readings[0])
    gaps = gaps_of(readings, start)
    # What closes the gap of the hour in which it begins is the one number that can be off.
    ways = [
        (dial, hour, gap if dial < dials - OTHER_DIALS else -gap)
        for dial in range(dials)
        for hour, gap in enumerate(gaps)
        if gap != 0
    ]
    return [way for way in ways if not any(gaps_of(put_right(readings, way), start))]


def put_right(rows, way):
    """The rows with that much taken from that dial's readings in that hour and in all later ones."""
    dial, first, off = way
    return rows[:first] + tuple([replaced(row, dial, row[dial] - off) for row in rows[first:]])
