"""Watches: a firing that is kept, changed by deeds, and their undoing."""

from mainfires.days import course
from mainfires.errors import NoAmount, NoDeed
from mainfires.kinds import caps_of, need_boiler, need_firing, need_hour
from mainfires.shapes import is_whole_from, replaced


class Watch:
    """Keeps a firing of a plant and a story, at first the one in which nothing is made."""

    def __init__(self, plant, story):
        nothing = tuple([tuple([0 for cap in row]) for row in caps_of(plant, story)])
        self.plant = plant
        self.story = story
        # The firing ahead of each deed that stands, then the kept one.
        self.firings = [nothing]

    def kept_firing(self):
        """The firing that is kept."""
        return self.firings[-1]

    def stoke(self, hour, boiler, amount):
        """Put the amount in its place; tell the last main of course's list, None where that is empty."""
        need_hour(self.story, hour)
        need_boiler(self.plant, boiler)
        if not is_whole_from(amount, 0, caps_of(self.plant, self.story)[hour][boiler]):
            raise NoAmount("no amount that the boiler can make then")
        self.put_row(hour, replaced(self.kept_firing()[hour], boiler, amount))
        mains = [main for made, drawn, blown, main in course(self.plant, self.story, self.kept_firing())]
        return mains[-1] if mains else None

    def bank(self, hour):
        """Put 0 in the place of all of the hour's."""
        need_hour(self.story, hour)
        self.put_row(hour, tuple([0 for made in self.kept_firing()[hour]]))

    def put_row(self, hour, row):
        """Keep the firing with that row in the hour's place, as a deed."""
        self.firings.append(replaced(self.kept_firing(), hour, row))

    def take_over(self, firing):
        """Put the firing in the place of the kept one."""
        need_firing(self.plant, self.story, firing)
        self.firings.append(firing)

    def undo(self):
        """Undo the last deed that stands."""
        if len(self.firings) == 1:
            raise NoDeed("no deed stands")
        self.firings.pop()
