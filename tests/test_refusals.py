"""0.4: what is refused, with which class, in which order."""

import unittest

from mainfires.errors import MainError
from tests.helper import CALLS, DAYS, ONE, ONE_STORY, REFUSALS, TWO, TWO_STORY, TWO_FIRING
from tests.helper import as_lists, is_right, misshapen, right_things, strange_things


class Refusals(unittest.TestCase):
    def assert_refused(self, error, call, arguments):
        try:
            call(*arguments)
        except MainError as told:
            self.assertIs(type(told), error, (call, arguments))
        else:
            self.fail((call, arguments))

    def wrong_things(self, name, day):
        right = right_things(day)[name]
        found = strange_things() + [as_lists(right), (right,), [right], {0: right}, str(right)]
        if isinstance(right, tuple):
            found += [list(right), right + (0,), right + right, right[:-1], right[1:]]
        elif isinstance(right, str):
            found += [right + "/", right[:-1], right[1:], " " + right, right + " ", right + "\n", right.encode().hex()]
        else:
            found += [-right - 1, right + 1, right + 100, 10**30]
        return [thing for thing in found if not is_right(name, day, thing)]

    def test_each_argument_alone(self):
        for day in DAYS:
            things = right_things(day)
            for call, names in CALLS:
                for at, name in enumerate(names):
                    if name in REFUSALS:
                        for wrong in self.wrong_things(name, day):
                            arguments = [things[each] for each in names]
                            arguments[at] = wrong
                            self.assert_refused(REFUSALS[name], call, arguments)

    def test_each_misshapen_argument(self):
        things = right_things(DAYS[1])
        for call, names in CALLS:
            for at, name in enumerate(names):
                if name in REFUSALS:
                    wrong_ones = [each for each in misshapen(things[name]) if not is_right(name, DAYS[1], each)]
                    self.assertGreater(len(wrong_ones), 7)
                    for wrong in wrong_ones:
                        arguments = [things[each] for each in names]
                        arguments[at] = wrong
                        self.assert_refused(REFUSALS[name], call, arguments)

    def test_what_stands_further_to_the_left_is_refused_first(self):
        for day in DAYS:
            things = right_things(day)
            for call, names in CALLS:
                for at, name in enumerate(names):
                    if name in REFUSALS:
                        for wrong in [each for each in strange_things() if not is_right(name, day, each)]:
                            arguments = [things[each] for each in names[:at]] + [wrong] * (len(names) - at)
                            self.assert_refused(REFUSALS[name], call, arguments)

    def test_wrong_ahead_of_each_mix_of_right_and_wrong(self):
        things = right_things(DAYS[0])
        for call, names in CALLS:
            refused = [name for name in names if name in REFUSALS]
            for mix in range(1, 2 ** len(refused)):
                mixed = [name for at, name in enumerate(refused) if mix >> at & 1]
                for strange in (None, True, 0, -1, "", [], (), {}):
                    wrong = [name for name in mixed if not is_right(name, DAYS[0], strange)]
                    if wrong:
                        arguments = [strange if name in wrong else things[name] for name in names]
                        self.assert_refused(REFUSALS[wrong[0]], call, arguments)

    def test_a_story_or_a_firing_of_another(self):
        for call, names in CALLS:
            rest = [None] * (len(names) - 3)
            if "story" in names:
                arguments = [ONE, TWO_STORY, TWO_FIRING] + rest
                self.assert_refused(REFUSALS["story"], call, arguments[: len(names)])
            if "firing" in names:
                self.assert_refused(REFUSALS["firing"], call, [TWO, TWO_STORY, ((6, 3),) * 4] + rest)
                self.assert_refused(REFUSALS["firing"], call, [ONE, ONE_STORY, TWO_FIRING] + rest)

    def test_nothing_right_is_refused(self):
        for day in DAYS:
            things = right_things(day)
            for call, names in CALLS:
                call(*[things[name] for name in names])


if __name__ == "__main__":
    unittest.main()
