"""What all modules need of numbers and tuples: whether a thing is one at all, and the plain steps with them."""


def is_whole(thing):
    """Whether it is a whole number."""
    # Python counts True and False among its ints, the document doesn't.
    return isinstance(thing, int) and not isinstance(thing, bool)


def is_whole_from(thing, least, most):
    """Whether it is a whole number from least to most."""
    return is_whole(thing) and least <= thing <= most


def is_tuple_of(thing, fewest, most):
    """Whether it is a tuple with from fewest to most parts."""
    return isinstance(thing, tuple) and fewest <= len(thing) <= most


def is_counts(thing, many):
    """Whether it is a tuple of so many whole numbers from 0 on."""
    return is_tuple_of(thing, many, many) and all([is_whole(part) and part >= 0 for part in thing])


def is_rising(parts):
    """Whether each of the parts is greater than the one ahead."""
    return all([ahead < part for ahead, part in zip(parts, parts[1:])])


def replaced(row, at, part):
    """The tuple with that part in that place."""
    return row[:at] + (part,) + row[at + 1 :]
