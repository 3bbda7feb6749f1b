import random
import unittest

from oracle import BIG, STEPS, first_of_longest, short_rows, wavy
from wavyrow.errors import NoStep
from wavyrow.longest import how_long, longest
from wavyrow.waves import are_wavy


class Longest(unittest.TestCase):
    """Point 7."""

    def holds(self, row, step, due):
        told = longest(row, step)
        self.assertIs(type(told), list)
        self.assertEqual(told, due, (row, step))
        many = how_long(row, step)
        self.assertIs(type(many), int)
        self.assertEqual(many, len(due), (row, step))

    def test_none_and_one(self):
        self.holds([], 1, [])
        self.holds([7], 1, [0])
        self.holds([-7], BIG, [0])

    def test_all_alike(self):
        self.holds([4, 4, 4, 4], 1, [0])

    def test_rising_and_falling(self):
        self.holds([1, 2, 3, 4], 1, [0, 1])
        self.holds([4, 3, 2, 1], 1, [0, 1])
        self.holds([1, 2, 3, 4], 2, [0, 2])
        self.holds([4, 3, 2, 1], 3, [0, 3])

    def test_by_turns(self):
        self.holds([1, 5, 2, 6, 3], 1, [0, 1, 2, 3, 4])
        self.holds([5, 1, 6, 2], 1, [0, 1, 2, 3])

    def test_the_first_of_several(self):
        self.holds([1, 1, 5, 5], 1, [0, 2])
        self.holds([2, 3, 3, 1, 1], 1, [0, 1, 3])
        self.holds([1, 2, 3, 0], 1, [0, 1, 3])
        self.holds([5, 6, 2, 8], 3, [0, 2, 3])
        self.holds([0, 3, 9, 1], 2, [0, 1, 3])

    def test_not_the_nearest_where_it_leads_less_far(self):
        self.holds([0, 3, 9, 1], 3, [0, 2, 3])
        self.holds([9, 6, 0, 8], 3, [0, 2, 3])

    def test_the_longest_may_begin_late(self):
        # From place 0 neither number behind is a step away.
        self.holds([5, 7, 3], 4, [1, 2])
        self.holds([5, 8, 3, 7], 4, [1, 2, 3])

    def test_just_the_step_and_one_less(self):
        self.holds([0, 4, 0, 4], 4, [0, 1, 2, 3])
        self.holds([0, 4, 0, 4], 5, [0])
        self.holds([0, 4, 1, 5], 4, [0, 1])

    def test_step_greater_than_any_difference(self):
        self.holds([1, 9, 2, 8], 9, [0])
        self.holds([1, 9, 2, 8], BIG, [0])

    def test_thirty_figures(self):
        self.holds([-BIG, BIG, 0], BIG, [0, 1, 2])
        self.holds([-BIG, BIG, 1], BIG, [0, 1])
        self.holds([0, BIG - 1], BIG, [0])
        self.holds([BIG - 1, BIG, BIG - 1], 1, [0, 1, 2])

    def test_step_below_one(self):
        for step in (0, -1, -BIG):
            for row in ([], [1], [1, 9, 2]):
                with self.subTest(step=step, row=row):
                    with self.assertRaises(NoStep):
                        longest(row, step)
                    with self.assertRaises(NoStep):
                        how_long(row, step)

    def test_all_short_rows(self):
        for row in short_rows(5, range(4)):
            for step in STEPS:
                self.holds(row, step, first_of_longest(row, step))

    def test_longer_rows(self):
        source = random.Random(7)
        for k in range(60):
            row = [source.randrange(-6, 7) for number in range(source.randrange(6, 11))]
            step = source.randrange(1, 8)
            self.holds(row, step, first_of_longest(row, step))

    def test_three_hundred_numbers(self):
        by_turns = [k % 2 for k in range(300)]
        self.holds(by_turns, 1, list(range(300)))
        self.holds(list(range(300)), 1, [0, 1])
        self.holds(list(range(300)), 299, [0, 299])
        self.holds([3] * 300, 1, [0])
        # Up by three, down by one, up by three: no fall is of three, near or far.
        climbing = [k + k % 2 * 2 for k in range(300)]
        self.holds(climbing, 3, [0, 1])
        self.holds(climbing, 1, list(range(300)))

    def test_three_hundred_any_numbers(self):
        source = random.Random(8)
        for step in (1, 4, 30, BIG):
            row = [source.randrange(-40, 41) for k in range(300)]
            told = longest(row, step)
            self.assertTrue(wavy(row, step, told))
            self.assertTrue(are_wavy(row, step, told))
            self.assertEqual(how_long(row, step), len(told))


class TheAskersOwn(unittest.TestCase):
    """Point 2."""

    def test_row_is_as_it_was(self):
        row = [5, 1, 6, 2]
        longest(row, 2)
        how_long(row, 2)
        self.assertEqual(row, [5, 1, 6, 2])

    def test_told_lists_are_new(self):
        for row in ([], [3], [5, 1, 6, 2]):
            told = longest(row, 1)
            due = list(told)
            told.append(99)
            again = longest(row, 1)
            self.assertEqual(again, due)
            self.assertEqual(how_long(row, 1), len(due))
            self.assertEqual(told, due + [99])
            again.clear()
            self.assertEqual(longest(row, 1), due)

    def test_changed_rows_change_no_told_list(self):
        row = [5, 1, 6, 2]
        told = longest(row, 1)
        row.clear()
        self.assertEqual(told, [0, 1, 2, 3])
        self.assertEqual(longest(row, 1), [])


if __name__ == "__main__":
    unittest.main()
