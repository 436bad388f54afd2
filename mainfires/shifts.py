"""Shifts: the coal burnt in each, and where a coal book and the steam don't agree."""

from mainfires.errors import NoBook, NoShifts
from mainfires.kinds import need_firing
from mainfires.shapes import is_counts, is_rising, is_tuple_of, is_whole_from


def is_shifts(hours, thing):
    """Whether it is shifts of so many hours."""
    return (
        is_tuple_of(thing, 1, hours)
        and all([is_whole_from(part, 0, hours - 1) for part in thing])
        and thing[0] == 0
        and is_rising(thing)
    )


def shift_coal(plant, story, firing, shifts):
    """The tuple of the coal burnt in each shift."""
    need_firing(plant, story, firing)
    if not is_shifts(len(firing), shifts):
        raise NoShifts("no shifts of this story")
    burnt = [sum([made * coal for made, (make, coal) in zip(row, plant[0])]) for row in firing]
    ends = shifts[1:] + (len(burnt),)
    return tuple([sum(burnt[first:end]) for first, end in zip(shifts, ends)])


def lacking(plant, story, firing, shifts, book):
    """The rising list of tuples (shift, by) of the shifts whose number in the book is more, or less, than the coal."""
    burnt = shift_coal(plant, story, firing, shifts)
    if not is_counts(book, len(shifts)):
        raise NoBook("no coal book of these shifts")
    return [(shift, number - coal) for shift, (number, coal) in enumerate(zip(book, burnt)) if number != coal]
