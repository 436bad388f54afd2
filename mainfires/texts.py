"""The texts of firings."""

from mainfires.errors import NoText
from mainfires.kinds import caps_of, need_firing


def firing_text(plant, story, firing):
    """The text that writes the firing."""
    need_firing(plant, story, firing)
    return "/".join([" ".join([str(made) for made in row]) for row in firing])


def firing_read(plant, story, text):
    """The firing that the text writes."""
    caps = caps_of(plant, story)
    if not isinstance(text, str):
        raise NoText(-1)
    rows = text.split("/")
    for at, row in enumerate(rows):
        if at >= len(caps) or not is_row_text(caps[at], row):
            raise NoText(at)
    if len(rows) < len(caps):
        raise NoText(-1)
    return tuple([tuple([int(word) for word in row.split(" ")]) for row in rows])


def is_row_text(caps, row):
    """Whether the text writes a firing's row of an hour in which the boilers can make so much."""
    words = row.split(" ")
    return len(words) == len(caps) and all([is_number_text(cap, word) for cap, word in zip(caps, words)])


def is_number_text(most, word):
    """Whether the text writes a number from 0 to most, just as str does."""
    return word in [str(number) for number in range(most + 1)]
