"""0.4 and the interface's row errors: the classes themselves."""

import unittest

from mainfires import errors

NAMES = (
    "NoPlant", "NoStory", "NoFiring", "NoHour", "NoBoiler", "NoPrices", "NoWay", "NoSet", "NoTanks", "NoPump",
    "NoFeeding", "NoReadings", "NoStart", "NoShifts", "NoBook", "NoAmount", "NoDeed", "NoLine", "NoText",
)  # fmt: skip


class Errors(unittest.TestCase):
    def test_main_error_stands_straight_under_value_error(self):
        self.assertEqual(errors.MainError.__bases__, (ValueError,))

    def test_each_stands_straight_under_main_error(self):
        for name in NAMES:
            with self.subTest(name):
                self.assertEqual(getattr(errors, name).__bases__, (errors.MainError,))

    def test_each_is_a_class_of_its_own(self):
        self.assertEqual(len({getattr(errors, name) for name in NAMES}), len(NAMES))

    def test_each_bears_its_name(self):
        for name in NAMES + ("MainError",):
            with self.subTest(name):
                self.assertEqual(getattr(errors, name).__name__, name)

    def test_each_is_raised_and_taken(self):
        for name in NAMES:
            error = getattr(errors, name)
            for base in (error, errors.MainError, ValueError):
                with self.subTest(name), self.assertRaises(base):
                    raise error(3) if name == "NoText" else error("why")

    def test_no_text_has_its_field(self):
        for at in (-1, 0, 7):
            with self.subTest(at):
                self.assertEqual(errors.NoText(at).at, at)
                self.assertEqual(errors.NoText(at=at).at, at)

    def test_no_text_is_made_of_its_field(self):
        with self.assertRaises(TypeError):
            errors.NoText()

    def test_no_texts_have_nothing_in_common(self):
        one, other = errors.NoText(1), errors.NoText(2)
        self.assertEqual((one.at, other.at), (1, 2))


if __name__ == "__main__":
    unittest.main()
