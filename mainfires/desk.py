"""A desk: it is told lines and answers each by a text."""

from mainfires.days import coal_of, course, falls_at
from mainfires.errors import NoLine, NoWay
from mainfires.least import cheapest
from mainfires.stretches import stretch_of
from mainfires.texts import firing_read, firing_text, is_number_text
from mainfires.watches import Watch

DONE = "ok"
NOTHING = "-"
MOST_WRITTEN = 99


def say_stoke(watch, parts):
    """What stoke tells."""
    hour, boiler, amount = parts
    main = watch.stoke(hour, boiler, amount)
    return NOTHING if main is None else str(main)


def say_bank(watch, parts):
    """Bank the hour."""
    watch.bank(parts[0])
    return DONE


def say_fire(watch, parts):
    """Take over the firing that the text writes."""
    watch.take_over(firing_read(watch.plant, watch.story, parts[0]))
    return DONE


def say_undo(watch, parts):
    """Undo the last deed that stands."""
    watch.undo()
    return DONE


def say_least(watch, parts):
    """Take over the firing of the least coal, and tell that coal."""
    paper = cheapest(watch.plant, watch.story)
    if paper[0] == "short":
        raise NoWay("no firing keeps up")
    word, coal, firing, prices = paper
    watch.take_over(firing)
    return str(coal)


def say_show(watch, parts):
    """The kept firing's text."""
    return firing_text(watch.plant, watch.story, watch.kept_firing())


def say_main(watch, parts):
    """The mains of course."""
    rows = course(watch.plant, watch.story, watch.kept_firing())
    return numbers_text([main for made, drawn, blown, main in rows]) if rows else "none"


def say_falls(watch, parts):
    """What falls_at tells."""
    fall = falls_at(watch.plant, watch.story, watch.kept_firing())
    return NOTHING if fall is None else numbers_text(fall)


def say_coal(watch, parts):
    """The coal that the kept firing burns."""
    return str(coal_of(watch.plant, watch.story, watch.kept_firing()))


def say_stretch(watch, parts):
    """What stretch_of tells."""
    stretch = stretch_of(watch.plant, watch.story)
    return NOTHING if stretch is None else numbers_text(stretch)


def numbers_text(numbers):
    """The numbers with one blank between."""
    return " ".join([str(number) for number in numbers])


SAYINGS = {
    "stoke": say_stoke,
    "bank": say_bank,
    "fire": say_fire,
    "undo": say_undo,
    "least": say_least,
    "show": say_show,
    "main": say_main,
    "falls": say_falls,
    "coal": say_coal,
    "stretch": say_stretch,
}
# How many numbers stand behind the word, of all words that no text stands behind.
NUMBERS = {"stoke": 3, "bank": 1, "undo": 0, "least": 0, "show": 0, "main": 0, "falls": 0, "coal": 0, "stretch": 0}


def read_line(line):
    """The line's first word, and the list of its numbers or of its text; refuse what is none of a desk's lines."""
    if not isinstance(line, str):
        raise NoLine("no text")
    first, blank, text = line.partition(" ")
    if first == "fire" and blank:
        return first, [text]
    # By each blank, so that one too many parts off an empty word, which is no figures.
    words = line.split(" ")[1:]
    if first not in NUMBERS or len(words) != NUMBERS[first]:
        raise NoLine("no such word, or words too many or too few")
    if not all([is_number_text(MOST_WRITTEN, word) for word in words]):
        raise NoLine("no figures")
    return first, [int(word) for word in words]


class Desk:
    """Keeps a Watch of a plant and a story."""

    def __init__(self, plant, story):
        self.watch = Watch(plant, story)

    def say(self, line):
        """Answer the line, or refuse it."""
        first, parts = read_line(line)
        saying = SAYINGS[first]
        return saying(self.watch, parts)
