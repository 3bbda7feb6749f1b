import itertools
import math
import random
import unittest

from oracle import BIG, STEPS, all_places, rounds_by_length, short_rows, wavy_about
from wavyrow.errors import NoPlace, NoStep
from wavyrow.longest import how_long
from wavyrow.rings import begun_at, counts_round, longest_round, wavy_round

BY_TURNS = [k % 2 for k in range(40)]


def some_rings():
    """Short rings and steps, and all their lists wavy round about by length."""
    for row in short_rows(6, range(3)):
        for step in (1, 2):
            yield row, step, rounds_by_length(row, step)
    source = random.Random(71)
    for k in range(60):
        row = [source.randrange(-6, 7) for number in range(source.randrange(6, 11))]
        step = source.randrange(1, 8)
        yield row, step, rounds_by_length(row, step)


def rounds_by_turns(count):
    """How many lists of each even number of places a ring by turns has: all gaps round about are odd."""
    told = [1]
    for half in range(1, count // 2 + 1):
        places = 2 * half
        pairs = (count - places) // 2
        # Odd gaps that are count together, times where the first one begins, each list counted once a place.
        gaps = math.comb(pairs + places - 1, places - 1)
        told.append(gaps * count // places)
    return told


class WavyRound(unittest.TestCase):
    """Point 25."""

    def test_none_one_two(self):
        for row in ([], [5], [5, 8]):
            self.assertIs(wavy_round(row, 1, []), True)
        self.assertIs(wavy_round([5], 1, [0]), False)
        self.assertIs(wavy_round([5, 8], 1, [1]), False)
        self.assertIs(wavy_round([5, 8], 3, [0, 1]), True)
        self.assertIs(wavy_round([8, 5], 3, [0, 1]), True)
        self.assertIs(wavy_round([5, 8], 4, [0, 1]), False)
        self.assertIs(wavy_round([5, 5], 1, [0, 1]), False)
        self.assertIs(wavy_round([8, 0, 0, 5], 3, [0, 3]), True)

    def test_just_the_step_and_one_less(self):
        everything = [0, 1, 2, 3]
        self.assertIs(wavy_round([0, 4, 0, 4], 4, everything), True)
        self.assertIs(wavy_round([4, 0, 4, 0], 4, everything), True)
        self.assertIs(wavy_round([0, 4, 0, 4], 5, everything), False)
        for low in range(4):
            row = [9, 9, 9, 9]
            row[low] = row[low - 2] = 0
            self.assertIs(wavy_round(row, 9, everything), True)
            row[low] = 1
            self.assertIs(wavy_round(row, 9, everything), False)

    def test_between_the_last_and_the_first(self):
        everything = [0, 1, 2, 3]
        self.assertIs(wavy_round([5, 9, 2, 9], 4, everything), True)
        self.assertIs(wavy_round([5, 9, 2, 8], 4, everything), False)
        self.assertIs(wavy_round([5, 9, 1, 5], 4, everything), False)
        # All steps are great enough, but the last number leads up to the first one.
        self.assertIs(wavy_round([5, 9, -9, 1], 4, everything), False)
        self.assertIs(wavy_round([5, 1, 19, 9], 4, everything), False)
        self.assertIs(wavy_round([5, 1, 19, 1], 4, everything), True)

    def test_the_same_way_twice(self):
        self.assertIs(wavy_round([1, 2, 3, 0], 1, [0, 1, 2, 3]), False)
        self.assertIs(wavy_round([1, 5, 9, 5], 1, [0, 1, 2, 3]), False)
        self.assertIs(wavy_round([0, 9, 0, 5, 9, 5], 1, [0, 1, 2, 3, 4, 5]), False)

    def test_odd_numbers_of_places(self):
        self.assertIs(wavy_round([0, 9, 0], 1, [0, 1, 2]), False)
        self.assertIs(wavy_round([0, 9, 4], 1, [0, 1, 2]), False)
        self.assertIs(wavy_round([0, 9, 0, 9, 4], 1, [0, 1, 2, 3, 4]), False)
        self.assertIs(wavy_round([0, 9, 0, 9, 4], 1, [0, 1, 2, 3]), True)

    def test_what_are_no_places_is_false(self):
        row = [1, 9, 2, 8]
        for places in ([1, 0], [0, 0], [-1, 0], [0, 4], [3, 4], [4, 5], [-2, -1], [0, 3, 2, 1], [0, 1, 0, 1],
                       [1, 2, 3, 0], [0, BIG], [-BIG, 1], [2, 1, 2, 1], [0, 1, 2, 3, 4, 5]):
            with self.subTest(places=places):
                self.assertIs(wavy_round(row, 1, places), False)
        for places in ([0], [-1], [0, 1], [BIG]):
            self.assertIs(wavy_round([], 1, places), False)

    def test_all_short_lists_of_whole_numbers(self):
        row = [2, 0, 2]
        for many in range(4):
            for places in itertools.product(range(-3, 5), repeat=many):
                due = all(0 <= k < 3 for k in places)
                due = due and list(places) == sorted(set(places)) and wavy_about(row, 2, places)
                self.assertIs(wavy_round(row, 2, list(places)), due, places)

    def test_all_places_of_short_rings(self):
        for row in short_rows(6, range(3)):
            for step in (1, 2):
                for places in all_places(len(row)):
                    self.assertIs(wavy_round(row, step, places), wavy_about(row, step, places), (row, step, places))

    def test_forty_numbers_of_thirty_figures(self):
        self.assertIs(wavy_round(BY_TURNS, 1, list(range(40))), True)
        self.assertIs(wavy_round(BY_TURNS, 2, list(range(40))), False)
        row = [-BIG, 0] * 20
        self.assertIs(wavy_round(row, BIG, list(range(40))), True)
        self.assertIs(wavy_round(row[:-1] + [-1], BIG, list(range(40))), False)
        self.assertIs(wavy_round([1 - BIG] + row[1:], BIG, list(range(40))), False)

    def test_step_below_one(self):
        for step in (0, -1, -BIG):
            for places in ([], [0], [0, 1], [1, 0], [-1], [3], [0, 1, 2], [BIG, 0]):
                for row in ([], [1, 9, 2]):
                    with self.subTest(step=step, places=places, row=row):
                        with self.assertRaises(NoStep):
                            wavy_round(row, step, places)


class LongestRound(unittest.TestCase):
    """Point 25."""

    def holds(self, row, step, due):
        told = longest_round(row, step)
        self.assertIs(type(told), list)
        self.assertEqual(told, due, (row, step))

    def test_none_one_two(self):
        self.holds([], 1, [])
        self.holds([7], 1, [])
        self.holds([7, 7], 1, [])
        self.holds([7, 7, 7, 7], 1, [])
        self.holds([7, 9], 2, [0, 1])
        self.holds([9, 7], 2, [0, 1])
        self.holds([7, 9], 3, [])

    def test_plain(self):
        self.holds([1, 2, 3, 4], 1, [0, 1])
        self.holds([4, 3, 2, 1], 2, [0, 2])
        self.holds([0, 4, 0, 4], 4, [0, 1, 2, 3])
        self.holds([0, 4, 0, 4, 2], 4, [0, 1, 2, 3])
        self.holds([3, 3, 0, 3, 0], 1, [0, 2, 3, 4])

    def test_the_last_must_lead_back(self):
        # As a row all four are wavy; round about the last number is too low, or too near.
        self.holds([5, 9, -9, 1], 1, [0, 1])
        self.holds([5, 9, 2, 8], 4, [0, 1])
        self.holds([5, 9, 2, 9], 4, [0, 1, 2, 3])

    def test_short_rings(self):
        for row, step, lists in some_rings():
            self.holds(row, step, lists[-1][0])

    def test_forty_numbers(self):
        self.holds(BY_TURNS, 1, list(range(40)))
        self.holds(BY_TURNS, 2, [])
        self.holds(BY_TURNS[:-1], 1, list(range(38)))
        self.holds([BIG, -BIG] * 20, BIG, list(range(40)))
        self.holds([BIG, 0] * 20, BIG, list(range(40)))
        self.holds([BIG - 1, 0] * 20, BIG, [])
        self.holds(list(range(40)), 7, [0, 7])
        self.holds([k // 2 % 2 for k in range(40)], 1, list(range(0, 40, 2)))

    def test_forty_any_numbers(self):
        source = random.Random(72)
        for k in range(20):
            row = [source.randrange(-BIG, BIG + 1) for number in range(40)]
            step = source.randrange(1, BIG)
            told = longest_round(row, step)
            self.assertTrue(wavy_about(row, step, told))
            # Of an odd number of wavy places all but the first or all but the last lead back;
            # of an even number all, or all but two.
            many = how_long(row, step)
            self.assertIn(len(told), (many - 1,) if many % 2 else (many, many - 2))

    def test_step_below_one(self):
        for step in (0, -1, -BIG):
            for row in ([], [1], [1, 9, 2]):
                with self.assertRaises(NoStep):
                    longest_round(row, step)


class CountsRound(unittest.TestCase):
    """Point 25."""

    def holds(self, row, step, due):
        told = counts_round(row, step)
        self.assertIs(type(told), list)
        self.assertEqual({type(number) for number in told}, {int})
        self.assertEqual(told, due, (row, step))

    def test_none_one_two(self):
        self.holds([], 1, [1])
        self.holds([7], 1, [1])
        self.holds([7, 7, 7], 1, [1])
        self.holds([7, 9], 2, [1, 1])
        self.holds([7, 9], 3, [1])

    def test_plain(self):
        self.holds([1, 2, 3, 4], 1, [1, 6])
        self.holds([1, 2, 3, 4], 3, [1, 1])
        self.holds([0, 4, 0, 4], 4, [1, 4, 1])
        self.holds([5, 9, -9, 1], 1, [1, 6])
        self.holds([0, 4, 0, 4, 0], 4, [1, 6, 2])

    def test_short_rings(self):
        for row, step, lists in some_rings():
            self.holds(row, step, [len(each) for each in lists])

    def test_forty_numbers(self):
        for count in (2, 4, 6, 8):
            row = BY_TURNS[:count]
            self.assertEqual(rounds_by_turns(count), [len(each) for each in rounds_by_length(row, 1)])
        self.holds(BY_TURNS, 1, rounds_by_turns(40))
        self.holds([BIG, 0] * 20, BIG, rounds_by_turns(40))
        self.holds([BIG, 1] * 20, BIG, [1])
        self.holds(list(range(40)), 1, [1, 40 * 39 // 2])
        self.holds([3] * 40, 1, [1])

    def test_as_long_as_the_longest(self):
        source = random.Random(73)
        for k in range(20):
            row = [source.randrange(-20, 21) for number in range(source.randrange(20, 41))]
            step = source.randrange(1, 30)
            told = counts_round(row, step)
            self.assertEqual(2 * len(told) - 2, len(longest_round(row, step)))
            self.assertNotIn(0, told)

    def test_step_below_one(self):
        for step in (0, -1, -BIG):
            for row in ([], [1], [1, 9, 2]):
                with self.assertRaises(NoStep):
                    counts_round(row, step)


class BegunAt(unittest.TestCase):
    """Point 26."""

    def test_each_place(self):
        row = [3, 1, 4, 1, 5]
        for place, due in enumerate(([3, 1, 4, 1, 5], [1, 4, 1, 5, 3], [4, 1, 5, 3, 1], [1, 5, 3, 1, 4],
                                     [5, 3, 1, 4, 1])):
            told = begun_at(row, place)
            self.assertIs(type(told), list)
            self.assertEqual(told, due)
        self.assertEqual(begun_at([7], 0), [7])

    def test_no_place(self):
        for row in ([], [7], [3, 1, 4]):
            for place in (-1, -2, -3, -BIG, len(row), len(row) + 1, BIG):
                with self.subTest(row=row, place=place):
                    with self.assertRaises(NoPlace):
                        begun_at(row, place)

    def test_as_many_are_the_longest(self):
        source = random.Random(74)
        for k in range(12):
            row = [source.randrange(-20, 21) for number in range(source.choice((1, 2, 5, 12, 40)))]
            step = source.randrange(1, 20)
            many, due = len(longest_round(row, step)), counts_round(row, step)
            for place in range(len(row)):
                begun = begun_at(row, place)
                self.assertEqual(len(longest_round(begun, step)), many)
                self.assertEqual(counts_round(begun, step), due)

    def test_forty_numbers(self):
        row = [-BIG, BIG] * 20
        self.assertEqual(begun_at(row, 39), [BIG, -BIG] * 20)
        self.assertEqual(longest_round(begun_at(row, 39), BIG), list(range(40)))


class TheAskersOwn(unittest.TestCase):
    """Point 2."""

    def test_handed_in_lists_are_as_they_were(self):
        row, places = [1, 5, 2, 6, 6], [0, 1, 2, 3]
        for step in STEPS:
            wavy_round(row, step, places)
            longest_round(row, step)
            counts_round(row, step)
            begun_at(row, 2)
        self.assertEqual((row, places), ([1, 5, 2, 6, 6], [0, 1, 2, 3]))

    def test_told_lists_are_new(self):
        for row in ([], [3], [1, 5, 2, 6]):
            for ask in (longest_round, counts_round, lambda row, step: begun_at(row + [0], 0)):
                told = ask(row, 1)
                due = list(told)
                told.append(99)
                self.assertEqual(ask(row, 1), due)
                self.assertEqual(told, due + [99])

    def test_a_ring_begun_at_its_first_place_is_another_list(self):
        row = [1, 5, 2, 6]
        told = begun_at(row, 0)
        told.append(99)
        self.assertEqual(row, [1, 5, 2, 6])
        row.clear()
        self.assertEqual(told, [1, 5, 2, 6, 99])


if __name__ == "__main__":
    unittest.main()
