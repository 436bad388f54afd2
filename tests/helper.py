"""Plants, stories, firings and things of all sorts that the tests hand in."""

from mainfires import days, kinds
from mainfires.errors import NoFiring, NoPlant, NoStory

ONE = (((5, 2),), (), (0, 10, 5))
ONE_STORY = ((3, 4, 5), ())
ONE_FIRING = ((3,), (4,), (5,))

TWO = (((6, 2), (3, 5)), ((4, 0, 2), (2, 1, 3)), (2, 12, 6))
TWO_STORY = ((1, 0, 3, 2), ((0, "scaled", 1, 2), (1, "out", 2, 3)))
TWO_FIRING = ((6, 3), (3, 0), (2, 0), (6, 0))

WIDE = (
    ((9, 9), (1, 1), (5, 3), (8, 2)),
    ((9, 0, 1), (1, 7, 8), (2, 3, 2), (5, 7, 1)),
    (0, 40, 40),
)
WIDE_STORY = (
    (0, 20, 1, 2, 0, 3, 4, 5),
    ((0, "out", 0, 3), (0, "scaled", 2, 5), (3, "scaled", 7, 7), (1, "scaled", 0, 7)),
)
WIDE_FIRING = (
    (0, 0, 5, 8),
    (0, 0, 5, 8),
    (0, 0, 0, 1),
    (0, 0, 5, 8),
    (4, 0, 0, 8),
    (4, 0, 5, 8),
    (9, 0, 5, 8),
    (9, 0, 5, 4),
)

DAYS = (
    (ONE, ONE_STORY, ONE_FIRING),
    (TWO, TWO_STORY, TWO_FIRING),
    (WIDE, WIDE_STORY, WIDE_FIRING),
)

# What each function takes, by the names of the interface, and what it refuses these with.
REFUSALS = {"plant": NoPlant, "story": NoStory, "firing": NoFiring}
CALLS = (
    (kinds.is_plant, ("thing",)),
    (kinds.is_story, ("plant", "thing")),
    (kinds.is_firing, ("plant", "story", "thing")),
    (kinds.caps_of, ("plant", "story")),
    (kinds.draws_of, ("plant", "story")),
    (kinds.full_firing, ("plant", "story")),
    (days.course, ("plant", "story", "firing")),
    (days.falls_at, ("plant", "story", "firing")),
    (days.keeps_up, ("plant", "story", "firing")),
    (days.coal_of, ("plant", "story", "firing")),
    (days.steam_by, ("plant", "story", "firing")),
    (days.banked, ("plant", "story", "firing")),
    (days.books_right, ("plant", "story", "firing", "thing")),
)


def deep(wrap):
    """A thing ten deep, each within the next by wrap."""
    thing = wrap(0)
    for step in range(9):
        thing = wrap(thing)
    return thing


def strange_things():
    """New things of all the sorts that may be handed in; none is a plant, a story, a firing, or course's list."""
    return [
        None, True, False, 0, 1, -1, 7, 40, 10**31 - 1, -(10**31 - 1),
        "", " ", "out", "scaled", "0", "((5, 2),)", "\t\n", "~" * 500,
        [], (), {}, [None], (None,), {None: None}, [True], (True,), (False,), {True: False},
        [0], (0,), (0, 0), (0, 0, 0), (0, 0, 0, 0), ("a", "b"), "ab", "abc", "abcd",
        ((),), ((), ()), ((), (), ()), [[]], [()], ([],), ({},), {(): []}, {0: 0, 1: 1, 2: 2}, {"a": [1, {"b": (2,)}]},
        [(0, 0, 0, 0, 0)], [(0, 0)], [None, (1, 2, 3, 4)],
        deep(lambda thing: [thing]), deep(lambda thing: (thing,)), deep(lambda thing: {"a": thing}),
        [0] * 3000, (0,) * 3000, ((0,),) * 1500, dict.fromkeys(range(1500), "x"),
    ]  # fmt: skip


def as_lists(thing):
    """The same with lists in the place of all tuples."""
    if isinstance(thing, tuple):
        return [as_lists(part) for part in thing]
    return thing


def places(thing):
    """The path of each place within the tuples and lists of it, those of tuples and lists too, but not ()."""
    found = []
    if isinstance(thing, (tuple, list)):
        for at, part in enumerate(thing):
            found.append((at,))
            found.extend([(at,) + path for path in places(part)])
    return found


def part_at(thing, path):
    """What stands in that place."""
    for at in path:
        thing = thing[at]
    return thing


def put(thing, path, part):
    """The same with part in that place; () is the place of the whole."""
    if path == ():
        return part
    parts = list(thing)
    parts[path[0]] = put(parts[path[0]], path[1:], part)
    return parts if isinstance(thing, list) else tuple(parts)


def misshapen(thing):
    """The thing with one place of it wrong: lists for tuples, parts left out, too many or none, parts of other sorts.

    Of numbers it puts only what no bound lets.
    """
    found = []
    for path in [()] + places(thing):
        part = part_at(thing, path)
        if isinstance(part, (tuple, list)):
            found.extend([put(thing, path, wrong) for wrong in (None, True, 0, "", {}, as_lists(tuple(part)))])
            if part:
                found.append(put(thing, path, dict(enumerate(part))))
        else:
            found.extend([put(thing, path, wrong) for wrong in (None, True, False, "1", "", -1, 99, (), (1,), [1], {})])
    return [each for each in found if kind_and_value(each) != kind_and_value(thing)]


def kind_and_value(thing):
    """What tells apart all that Python's == holds for the same, as 1 and True."""
    return repr(thing)
