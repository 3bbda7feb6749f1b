import itertools
import unittest

from oracle import BIG, STEPS, all_places, short_rows, wavy
from wavyrow.errors import NoPlace, NoStep
from wavyrow.waves import are_wavy, how_many_turns

NOT_PLACES = ([1, 0], [0, 2, 1], [1, 1], [0, 1, 1], [-1], [-1, 0], [3], [0, 3], [4], [0, BIG], [-BIG, 0],
              [0, 1, 2, 3], [2, 1, 0])


class AreWavy(unittest.TestCase):
    """Point 5."""

    def test_none_one_two(self):
        self.assertIs(are_wavy([], 1, []), True)
        self.assertIs(are_wavy([5], 9, []), True)
        self.assertIs(are_wavy([5], 9, [0]), True)
        self.assertIs(are_wavy([5, 5, 8], 9, [1]), True)
        self.assertIs(are_wavy([5, 8], 3, [0, 1]), True)
        self.assertIs(are_wavy([8, 5], 3, [0, 1]), True)
        self.assertIs(are_wavy([5, 5], 1, [0, 1]), False)

    def test_what_are_no_places_is_false(self):
        for places in NOT_PLACES:
            with self.subTest(places=places):
                self.assertIs(are_wavy([1, 9, 2], 1, places), False)
        for places in ([0], [-1], [BIG]):
            self.assertIs(are_wavy([], 1, places), False)

    def test_just_the_step_and_one_less(self):
        row = [0, 4, 0, 4]
        self.assertIs(are_wavy(row, 4, [0, 1, 2, 3]), True)
        self.assertIs(are_wavy(row, 5, [0, 1, 2, 3]), False)
        self.assertIs(are_wavy([0, 4, 1, 5], 4, [0, 1, 2, 3]), False)
        self.assertIs(are_wavy([0, 4, 0, 3], 4, [0, 1, 2, 3]), False)
        self.assertIs(are_wavy([0, 3, -1, 3], 4, [0, 1, 2, 3]), False)

    def test_either_first_way(self):
        self.assertIs(are_wavy([1, 3, 2], 1, [0, 1, 2]), True)
        self.assertIs(are_wavy([3, 1, 2], 1, [0, 1, 2]), True)
        self.assertIs(are_wavy([3, 1, 2, 0, 9], 1, [0, 1, 2, 3, 4]), True)

    def test_the_same_way_twice(self):
        self.assertIs(are_wavy([1, 2, 3], 1, [0, 1, 2]), False)
        self.assertIs(are_wavy([3, 2, 1], 1, [0, 1, 2]), False)
        self.assertIs(are_wavy([1, 5, 2, 4, 6], 1, [0, 1, 2, 3, 4]), False)
        self.assertIs(are_wavy([1, 3, 5, 2], 1, [0, 1, 2, 3]), False)

    def test_only_the_places_count(self):
        row = [1, 2, 3, 3, 1]
        self.assertIs(are_wavy(row, 2, [0, 2, 4]), True)
        self.assertIs(are_wavy(row, 2, [0, 3, 4]), True)
        self.assertIs(are_wavy(row, 2, [0, 2, 3, 4]), False)

    def test_thirty_figures(self):
        row = [-BIG, BIG, -BIG]
        self.assertIs(are_wavy(row, BIG, [0, 1, 2]), True)
        self.assertIs(are_wavy([0, BIG, 0], BIG, [0, 1, 2]), True)
        self.assertIs(are_wavy([0, BIG, 1], BIG, [0, 1, 2]), False)

    def test_three_hundred_numbers(self):
        row = [k % 2 for k in range(300)]
        self.assertIs(are_wavy(row, 1, list(range(300))), True)
        self.assertIs(are_wavy(row[:-1] + [0], 1, list(range(300))), False)

    def test_step_below_one(self):
        for step in (0, -1, -BIG):
            for places in ([], [0], [0, 1]) + NOT_PLACES:
                with self.subTest(step=step, places=places):
                    with self.assertRaises(NoStep):
                        are_wavy([1, 9, 2], step, places)
        with self.assertRaises(NoStep):
            are_wavy([], 0, [])

    def test_all_places_of_short_rows(self):
        for row in short_rows(4, range(4)):
            for step in STEPS:
                for places in all_places(len(row)):
                    told = are_wavy(row, step, places)
                    self.assertIs(told, wavy(row, step, places), (row, step, places))

    def test_all_short_lists_of_whole_numbers(self):
        row = [2, 0, 2]
        for many in range(4):
            for places in itertools.product(range(-2, 5), repeat=many):
                due = all(0 <= k < 3 for k in places)
                due = due and list(places) == sorted(set(places)) and wavy(row, 1, places)
                self.assertIs(are_wavy(row, 1, list(places)), due, places)


class HowManyTurns(unittest.TestCase):
    """Point 6."""

    def test_none_one_two(self):
        self.assertEqual(how_many_turns([], []), 0)
        for places in ([], [1], [0, 1], [0, 2]):
            self.assertEqual(how_many_turns([1, 9, 2], places), 0)

    def test_peaks_and_dips(self):
        self.assertEqual(how_many_turns([1, 9, 2], [0, 1, 2]), 1)
        self.assertEqual(how_many_turns([9, 1, 2], [0, 1, 2]), 1)
        self.assertEqual(how_many_turns([1, 9, 2, 8], [0, 1, 2, 3]), 2)
        self.assertEqual(how_many_turns([1, 2, 3, 2, 1, 2], [0, 1, 2, 3, 4, 5]), 2)

    def test_no_turns(self):
        self.assertEqual(how_many_turns([1, 2, 3], [0, 1, 2]), 0)
        self.assertEqual(how_many_turns([3, 2, 1], [0, 1, 2]), 0)

    def test_equal_neighbours_are_no_turn(self):
        for row in ([1, 2, 2, 1], [2, 2, 1], [1, 2, 2], [2, 1, 1, 2], [1, 1, 2], [2, 1, 1], [1, 1, 1]):
            with self.subTest(row=row):
                self.assertEqual(how_many_turns(row, list(range(len(row)))), 0)

    def test_only_the_places_count(self):
        self.assertEqual(how_many_turns([1, 5, 1, 5, 1], [0, 2, 4]), 0)
        self.assertEqual(how_many_turns([1, 1, 5, 5, 1], [0, 2, 4]), 1)

    def test_a_whole_number(self):
        self.assertIs(type(how_many_turns([1, 9, 2], [0, 1, 2])), int)

    def test_large(self):
        row = [BIG if k % 2 else -BIG for k in range(300)]
        self.assertEqual(how_many_turns(row, list(range(300))), 298)

    def test_what_are_no_places(self):
        for places in NOT_PLACES:
            with self.subTest(places=places):
                with self.assertRaises(NoPlace):
                    how_many_turns([1, 9, 2], places)
        for places in ([0], [-1], [BIG]):
            with self.assertRaises(NoPlace):
                how_many_turns([], places)


class NothingIsChanged(unittest.TestCase):
    """Point 2."""

    def test_handed_in_lists(self):
        row, places = [1, 9, 2, 7], [0, 1, 2, 3]
        self.assertIs(are_wavy(row, 1, places), True)
        self.assertEqual(how_many_turns(row, places), 2)
        self.assertIs(are_wavy(row, 6, places), False)
        self.assertEqual((row, places), ([1, 9, 2, 7], [0, 1, 2, 3]))

    def test_asked_again(self):
        row, places = [1, 9, 2], [0, 1, 2]
        self.assertEqual([are_wavy(row, 1, places) for k in range(3)], [True] * 3)
        row[1] = 2
        self.assertIs(are_wavy(row, 1, places), False)
        self.assertEqual(how_many_turns(row, places), 0)


if __name__ == "__main__":
    unittest.main()
