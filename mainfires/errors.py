"""The refusals: each of a class of its own, straight under MainError."""


class MainError(ValueError):
    """Any refusal."""


class NoPlant(MainError):
    """What was handed in for a plant is none."""


class NoStory(MainError):
    """What was handed in for a story is none of this plant."""


class NoFiring(MainError):
    """What was handed in for a firing is none of this plant and story, or not such a one as is due."""


class NoHour(MainError):
    """What was handed in for an hour is none of this story."""


class NoBoiler(MainError):
    """What was handed in for a boiler is none of this plant."""


class NoPrices(MainError):
    """What was handed in for prices is none of this story."""


class NoWay(MainError):
    """No firing keeps up."""


class NoSet(MainError):
    """What was handed in for a set of boilers is none."""


class NoTanks(MainError):
    """What was handed in for tanks is none of this plant."""


class NoPump(MainError):
    """What was handed in for a pump is none."""


class NoFeeding(MainError):
    """What was handed in for a feeding is none."""


class NoReadings(MainError):
    """What was handed in for readings is none."""


class NoStart(MainError):
    """What was handed in for the main's start is none."""


class NoShifts(MainError):
    """What was handed in for shifts is none of this story."""


class NoBook(MainError):
    """What was handed in for a coal book is none of these shifts."""


class NoAmount(MainError):
    """What was handed in for an amount is none that the boiler can make then."""


class NoDeed(MainError):
    """No deed stands that could be undone."""


class NoLine(MainError):
    """What was said to a desk is none of its lines."""


class NoText(MainError):
    """What was handed in for a firing's text is none; at is the first wrong row's number, or -1."""

    def __init__(self, at):
        MainError.__init__(self, f"no text of a firing: {at}")
        self.at = at
