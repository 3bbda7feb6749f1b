import unittest

from wavyrow import errors
from wavyrow.counted import counts, first_longest, how_many_longest, so_manieth
from wavyrow.desk import Desk
from wavyrow.errors import NoForm, NoneYet, NoNumber, NoPlace, NoStep, NoText, WaveError
from wavyrow.longest import how_long, longest, pieces_of, pieces_show
from wavyrow.made import fewest_beginning, fewest_changed, made_wavy
from wavyrow.rings import begun_at, counts_round, longest_round, wavy_round
from wavyrow.texts import read_row
from wavyrow.turns import fewest_turns, kept_by_turns, longest_turning
from wavyrow.waves import are_wavy, how_many_turns

NAMES = ("NoStep", "NoPlace", "NoWeights", "NoNumber", "NoText", "NoForm", "NoneYet")


class Classes(unittest.TestCase):
    """Point 3."""

    def test_wave_error_is_a_value_error(self):
        self.assertTrue(issubclass(WaveError, ValueError))

    def test_each_stands_under_wave_error(self):
        for name in NAMES:
            with self.subTest(name):
                named = getattr(errors, name)
                self.assertEqual(named.__name__, name)
                self.assertTrue(issubclass(named, WaveError))
                self.assertTrue(issubclass(named, ValueError))
                self.assertIsNot(named, WaveError)

    def test_none_stands_under_another(self):
        for name in NAMES:
            for another in NAMES:
                if name != another:
                    with self.subTest(f"{name} and {another}"):
                        self.assertFalse(issubclass(getattr(errors, name), getattr(errors, another)))

    def test_caught_as_any_refusal(self):
        with self.assertRaises(WaveError):
            longest([1, 2], 0)
        with self.assertRaises(ValueError):
            how_many_turns([1, 2], [2])


class RefusedChangesNothing(unittest.TestCase):
    """Point 3: what is refused changes nothing."""

    def test_row_and_places(self):
        row, places, cuts = [3, 1, 2], [0, 1, 2], [1, 2]
        paper = ("down", cuts)
        for call in (
            lambda: are_wavy(row, 0, places),
            lambda: longest(row, 0),
            lambda: how_long(row, 0),
            lambda: pieces_show(row, 0, paper),
            lambda: pieces_of(row, 0),
            lambda: counts(row, 0),
            lambda: how_many_longest(row, 0),
            lambda: kept_by_turns(row, 0),
            lambda: wavy_round(row, 0, places),
            lambda: longest_round(row, 0),
            lambda: counts_round(row, 0),
            lambda: fewest_changed(row, 0),
            lambda: made_wavy(row, 0),
            lambda: fewest_beginning(row, 0, "up"),
        ):
            with self.assertRaises(NoStep):
                call()
        self.assertEqual((row, places, paper), ([3, 1, 2], [0, 1, 2], ("down", [1, 2])))
        self.assertEqual(longest(row, 1), [0, 1, 2])

    def test_numbers(self):
        row = [3, 1, 2]
        for call in (
            lambda: first_longest(row, 1, 101),
            lambda: so_manieth(row, 1, 1, 0),
            lambda: longest_turning(row, 1, -1),
            lambda: fewest_turns(row, 1, -1),
        ):
            with self.assertRaises(NoNumber):
                call()
        self.assertEqual(row, [3, 1, 2])
        self.assertEqual(first_longest(row, 1, 100), [[0, 1, 2]])

    def test_what_are_no_places(self):
        row, places = [3, 1, 2], [2, 1, 5]
        with self.assertRaises(NoPlace):
            how_many_turns(row, places)
        with self.assertRaises(NoPlace):
            begun_at(row, 3)
        self.assertEqual((row, places), ([3, 1, 2], [2, 1, 5]))

    def test_words(self):
        row = [3, 1, 2]
        with self.assertRaises(NoText):
            fewest_beginning(row, 0, "Up")
        self.assertEqual(row, [3, 1, 2])


class JustItsClass(unittest.TestCase):
    """Point 3: each refusal is of just the class that is named."""

    def test_texts_and_desk(self):
        for call, due in (
            (lambda: read_row("1\n"), NoText),
            (lambda: fewest_beginning([1], 0, "left"), NoText),
            (lambda: Desk().say("Row"), NoForm),
            (lambda: Desk().say("row"), NoneYet),
            (lambda: Desk().say("step 0"), NoStep),
            (lambda: begun_at([], 0), NoPlace),
        ):
            with self.assertRaises(WaveError) as caught:
                call()
            self.assertIs(type(caught.exception), due)


if __name__ == "__main__":
    unittest.main()
