import math
import random
import unittest

from oracle import BIG, STEPS, by_length, short_rows, wavy
from wavyrow.counted import counts, first_longest, how_many_longest, so_manieth
from wavyrow.errors import NoNumber, NoStep
from wavyrow.longest import how_long, longest

BY_TURNS = [k % 2 for k in range(300)]


def counts_by_turns(count):
    """How many wavy places of each number a row by turns of so many numbers has: all gaps are odd."""
    told = [1]
    for many in range(1, count + 1):
        spare = range(count - many + 1)
        told.append(sum(math.comb((count - many - first) // 2 + many - 1, many - 1) for first in spare))
    return told


def some_rows():
    """Short rows and steps, and all lists of their wavy places by length."""
    for row in short_rows(5, range(3)):
        for step in (1, 2):
            yield row, step, by_length(row, step)
    source = random.Random(31)
    for k in range(40):
        row = [source.randrange(-5, 6) for number in range(source.randrange(6, 10))]
        step = source.randrange(1, 5)
        yield row, step, by_length(row, step)


class Counts(unittest.TestCase):
    """Point 14."""

    def holds(self, row, step, due):
        told = counts(row, step)
        self.assertIs(type(told), list)
        self.assertEqual({type(number) for number in told}, {int})
        self.assertEqual(told, due, (row, step))

    def test_none_and_one(self):
        self.holds([], 1, [1])
        self.holds([7], 1, [1, 1])
        self.holds([-7], BIG, [1, 1])

    def test_all_alike(self):
        self.holds([4, 4, 4, 4], 1, [1, 4])

    def test_rising_and_falling(self):
        self.holds([1, 2, 3, 4], 1, [1, 4, 6])
        self.holds([4, 3, 2, 1], 1, [1, 4, 6])
        self.holds([1, 2, 3, 4], 3, [1, 4, 1])
        self.holds([1, 2, 3, 4], 4, [1, 4])

    def test_by_turns(self):
        self.holds([1, 5, 2, 6], 1, [1, 4, 6, 2, 1])
        self.holds([0, 1, 0, 1], 1, [1, 4, 4, 2, 1])

    def test_short_rows(self):
        for row, step, lists in some_rows():
            self.holds(row, step, [len(each) for each in lists])

    def test_just_the_step_and_one_less(self):
        self.holds([0, 4, 0], 4, [1, 3, 2, 1])
        self.holds([0, 4, 0], 5, [1, 3])
        self.holds([0, 4, 1], 4, [1, 3, 1])

    def test_three_hundred_numbers(self):
        self.assertEqual(counts_by_turns(4), [1, 4, 4, 2, 1])
        self.holds(BY_TURNS, 1, counts_by_turns(300))
        self.assertGreater(max(counts(BY_TURNS, 1)), BIG)
        self.holds([3] * 300, 1, [1, 300])
        self.holds(list(range(300)), 1, [1, 300, 300 * 299 // 2])
        self.holds([-BIG, BIG] * 150, BIG, counts_by_turns(300))

    def test_any_three_hundred_numbers(self):
        source = random.Random(32)
        row = [source.randrange(-40, 41) for k in range(300)]
        told = counts(row, 5)
        self.assertEqual(len(told), how_long(row, 5) + 1)
        self.assertEqual(told[:2], [1, 300])
        self.assertEqual(told[2], sum(abs(right - left) >= 5 for k, left in enumerate(row) for right in row[k:]))
        self.assertEqual(told[-1], how_many_longest(row, 5))

    def test_step_below_one(self):
        for step in (0, -1, -BIG):
            for row in ([], [1], [1, 9, 2]):
                with self.subTest(step=step, row=row):
                    with self.assertRaises(NoStep):
                        counts(row, step)


class HowManyLongest(unittest.TestCase):
    """Point 15."""

    def test_plain(self):
        for row, step, due in (([], 1, 1), ([7], 1, 1), ([4, 4, 4], 1, 3), ([1, 2, 3], 1, 3), ([1, 5, 2, 6], 1, 1),
                               ([1, 1, 5, 5, 2], 1, 4), ([0, 4, 0, 4], 5, 4)):
            told = how_many_longest(row, step)
            self.assertIs(type(told), int)
            self.assertEqual(told, due, (row, step))

    def test_short_rows(self):
        for row, step, lists in some_rows():
            self.assertEqual(how_many_longest(row, step), len(lists[-1]), (row, step))

    def test_the_last_of_the_counts(self):
        source = random.Random(33)
        for k in range(60):
            row = [source.randrange(-20, 21) for number in range(source.randrange(60))]
            step = source.randrange(1, 25)
            self.assertEqual(how_many_longest(row, step), counts(row, step)[-1], (row, step))

    def test_very_many(self):
        # A hundred times three alike: of each three any one will do.
        row = [k // 3 % 2 for k in range(300)]
        self.assertEqual(how_many_longest(row, 1), 3 ** 100)
        self.assertEqual(how_many_longest(BY_TURNS, 1), 1)
        self.assertEqual(how_many_longest([3] * 300, BIG), 300)

    def test_step_below_one(self):
        for step in (0, -1, -BIG):
            for row in ([], [1], [1, 9, 2]):
                with self.assertRaises(NoStep):
                    how_many_longest(row, step)


class FirstLongest(unittest.TestCase):
    """Point 15."""

    def holds(self, row, step, many, due):
        told = first_longest(row, step, many)
        self.assertIs(type(told), list)
        for places in told:
            self.assertIs(type(places), list)
        self.assertEqual(len({id(places) for places in told}), len(told))
        self.assertEqual(told, due, (row, step, many))

    def test_without_numbers(self):
        self.holds([], 1, 0, [])
        self.holds([], 1, 1, [[]])
        self.holds([], 1, 100, [[]])

    def test_plain(self):
        self.holds([7], 1, 5, [[0]])
        self.holds([4, 4, 4], 1, 2, [[0], [1]])
        self.holds([1, 1, 5, 5], 1, 3, [[0, 2], [0, 3], [1, 2]])
        self.holds([5, 9, 1, 9, 1], 9, 3, [[0], [1], [2]])
        self.holds([5, 8, 2], 5, 9, [[1, 2]])
        self.holds([5, 7, 3, 4], 3, 9, [[1, 2], [1, 3]])
        self.holds([5, 8, 6, 4, 2], 3, 9, [[0, 1, 3], [0, 1, 4]])
        self.holds([5, 2, 8, 5], 3, 9, [[0, 1, 2, 3]])

    def test_short_rows(self):
        for row, step, lists in some_rows():
            for many in (0, 1, 2, len(lists[-1]) - 1, len(lists[-1]), len(lists[-1]) + 1, 100):
                self.holds(row, step, many, lists[-1][:many])

    def test_the_first_is_the_longest(self):
        source = random.Random(34)
        for k in range(20):
            row = [source.randrange(-20, 21) for number in range(source.randrange(60))]
            step = source.randrange(1, 25)
            self.assertEqual(first_longest(row, step, 1), [longest(row, step)])

    def test_three_hundred_numbers(self):
        self.holds(BY_TURNS, 1, 100, [list(range(300))])
        self.holds([3] * 300, 1, 100, [[k] for k in range(100)])
        self.holds([3] * 300, 1, 99, [[k] for k in range(99)])
        row = [k // 3 % 2 for k in range(300)]
        told = first_longest(row, 1, 100)
        self.assertEqual(len(told), 100)
        firsts = list(range(0, 300, 3))
        self.assertEqual(told[:4], [firsts, firsts[:-1] + [298], firsts[:-1] + [299], firsts[:-2] + [295, 297]])
        self.assertEqual(told, sorted(told))
        self.assertTrue(all(wavy(row, 1, places) for places in told))

    def test_how_many_may_be_asked_for(self):
        self.holds([1, 2], 1, 0, [])
        self.holds([1, 2], 1, 100, [[0, 1]])
        for many in (-1, 101, -BIG, BIG):
            for row in ([], [1, 2]):
                with self.subTest(many=many, row=row):
                    with self.assertRaises(NoNumber):
                        first_longest(row, 1, many)

    def test_step_below_one_goes_first(self):
        for step in (0, -1, -BIG):
            for many in (0, 1, 100, -1, 101, BIG):
                for row in ([], [1, 2]):
                    with self.assertRaises(NoStep):
                        first_longest(row, step, many)


class SoManieth(unittest.TestCase):
    """Point 16."""

    def holds(self, row, step, places, number, due):
        told = so_manieth(row, step, places, number)
        if due is not None:
            self.assertIs(type(told), list)
        self.assertEqual(told, due, (row, step, places, number))

    def test_no_places(self):
        for row in ([], [1], [1, 9, 2]):
            self.holds(row, 1, 0, 1, [])
            self.holds(row, 1, 0, 2, None)
            self.holds(row, 1, 0, BIG, None)

    def test_single_places(self):
        for number in (1, 2, 3):
            self.holds([1, 9, 2], 1, 1, number, [number - 1])
        self.holds([1, 9, 2], 1, 1, 4, None)
        self.holds([], 1, 1, 1, None)

    def test_both_ways_among_one_another(self):
        row = [5, 9, 1, 7]
        for number, due in enumerate([[0, 1], [0, 2], [0, 3], [1, 2], [1, 3], [2, 3]], 1):
            self.holds(row, 1, 2, number, due)
        for number, due in enumerate([[0, 1, 2], [0, 1, 3], [0, 2, 3], [1, 2, 3]], 1):
            self.holds(row, 1, 3, number, due)

    def test_short_rows(self):
        for row, step, lists in some_rows():
            for places, due in enumerate(lists):
                for number, each in enumerate(due, 1):
                    self.holds(row, step, places, number, each)
                for number in (len(due) + 1, len(due) + 2, BIG):
                    self.holds(row, step, places, number, None)
            for places in (len(lists), len(row) + 1, len(row) + 2, BIG):
                self.holds(row, step, places, 1, None)
                self.holds(row, step, places, BIG, None)

    def test_each_that_the_longest_list(self):
        row, step = [3, 1, 4, 1, 5, 9, 2, 6, 5, 3, 5, 8, 9, 7, 9], 2
        many = how_many_longest(row, step)
        told = [so_manieth(row, step, how_long(row, step), number) for number in range(1, many + 1)]
        self.assertEqual(told, first_longest(row, step, 100))

    def test_three_hundred_numbers(self):
        due = counts_by_turns(300)
        for places in (1, 2, 149, 150, 299, 300):
            self.holds(BY_TURNS, 1, places, 1, list(range(places)))
            self.holds(BY_TURNS, 1, places, due[places], list(range(300 - places, 300)))
            self.holds(BY_TURNS, 1, places, due[places] + 1, None)
        self.holds(BY_TURNS, 1, 301, 1, None)
        middle = [so_manieth(BY_TURNS, 1, 150, BIG + k) for k in range(4)]
        self.assertEqual(middle, sorted(middle))
        self.assertEqual(len({tuple(places) for places in middle}), 4)
        for places in middle:
            self.assertEqual(len(places), 150)
            self.assertTrue(wavy(BY_TURNS, 1, places))

    def test_wrong_numbers(self):
        for row in ([], [1, 9, 2]):
            for places, number in ((0, 0), (1, 0), (1, -1), (2, -BIG), (-1, 1), (-BIG, 1), (-1, 0), (BIG, 0)):
                with self.subTest(row=row, places=places, number=number):
                    with self.assertRaises(NoNumber):
                        so_manieth(row, 1, places, number)

    def test_step_below_one_goes_first(self):
        for step in (0, -1, -BIG):
            for places, number in ((0, 1), (1, 1), (0, 0), (-1, 1), (-1, 0), (BIG, BIG)):
                for row in ([], [1, 9, 2]):
                    with self.assertRaises(NoStep):
                        so_manieth(row, step, places, number)


class TheAskersOwn(unittest.TestCase):
    """Point 2."""

    def test_row_is_as_it_was(self):
        row = [1, 5, 2, 6, 6]
        for step in STEPS:
            counts(row, step)
            how_many_longest(row, step)
            first_longest(row, step, 5)
            so_manieth(row, step, 2, 2)
        self.assertEqual(row, [1, 5, 2, 6, 6])

    def test_told_lists_are_new(self):
        for row in ([], [3], [1, 5, 2, 6, 6]):
            for ask in (counts, lambda row, step: first_longest(row, step, 9),
                        lambda row, step: so_manieth(row, step, 0, 1),
                        lambda row, step: so_manieth(row + [0], step, 1, 1)):
                told = ask(row, 1)
                due = list(told)
                told.append(99)
                self.assertEqual(ask(row, 1), due)
                self.assertEqual(told, due + [99])

    def test_told_lists_in_a_list_are_new(self):
        row = [1, 1, 5, 5]
        told = first_longest(row, 1, 9)
        told[0].append(99)
        self.assertEqual(told[1:], [[0, 3], [1, 2], [1, 3]])
        self.assertEqual(first_longest(row, 1, 9), [[0, 2], [0, 3], [1, 2], [1, 3]])
        row.clear()
        self.assertEqual(told[1:], [[0, 3], [1, 2], [1, 3]])


if __name__ == "__main__":
    unittest.main()
