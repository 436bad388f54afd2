"""What a thing of whatever sort is asked first: whether it is a number or a tuple at all."""


def is_whole(thing):
    """Whether it is a whole number."""
    # Python counts True and False among its ints, the document doesn't.
    return isinstance(thing, int) and not isinstance(thing, bool)


def is_whole_from(thing, least, most):
    """Whether it is a whole number from least to most."""
    return is_whole(thing) and least <= thing <= most


def is_tuple_of(thing, fewest, most):
    """Whether it is a tuple with from fewest to most parts."""
    return isinstance(thing, tuple) and fewest <= len(thing) <= most
