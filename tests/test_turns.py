import random
import unittest

from oracle import BIG, all_stepped, first_turning, short_rows, turning
from wavyrow.errors import NoNumber, NoStep
from wavyrow.longest import how_long
from wavyrow.turns import fewest_turns, kept_by_turns, longest_turning
from wavyrow.waves import how_many_turns

BY_TURNS = [k % 2 for k in range(300)]


def some_rows():
    """Short rows and steps, and all their stepped places."""
    for row in short_rows(6, range(3)):
        for step in (1, 2):
            yield row, step, all_stepped(row, step)
    source = random.Random(41)
    for k in range(60):
        row = [source.randrange(-6, 7) for number in range(source.randrange(6, 10))]
        step = source.randrange(1, 6)
        yield row, step, all_stepped(row, step)


def due_kept(row, stepped):
    """How many can be kept with at most 0, 1 and so on turns, up to the first that keeps as many as any."""
    kept = [len(first_turning(stepped, turns)) for turns in range(len(row) + 1)]
    return kept[:kept.index(max(kept)) + 1]


class LongestTurning(unittest.TestCase):
    """Point 17."""

    def holds(self, row, step, turns, due):
        told = longest_turning(row, step, turns)
        self.assertIs(type(told), list)
        self.assertEqual(told, due, (row, step, turns))

    def test_none_and_one(self):
        for turns in (0, 1, 2, BIG):
            self.holds([], 1, turns, [])
            self.holds([7], 1, turns, [0])
            self.holds([-7], BIG, turns, [0])
            self.holds([4, 4, 4], 1, turns, [0])

    def test_only_rising_or_falling(self):
        self.holds([1, 2, 3, 4], 1, 0, [0, 1, 2, 3])
        self.holds([4, 3, 2, 1], 1, 0, [0, 1, 2, 3])
        self.holds([1, 2, 3, 4], 2, 0, [0, 2])
        self.holds([3, 1, 4, 1, 5, 9, 2, 6], 1, 0, [0, 2, 4, 5])
        self.holds([9, 1, 8, 2, 7, 3], 1, 0, [0, 2, 4, 5])
        self.holds([1, 9, 2, 8], 1, 0, [0, 2, 3])

    def test_a_few_turns(self):
        row = [1, 2, 3, 2, 1, 2, 3]
        self.holds(row, 1, 0, [0, 1, 2])
        self.holds(row, 1, 1, [0, 1, 2, 3, 4])
        self.holds(row, 1, 2, [0, 1, 2, 3, 4, 5, 6])
        self.holds(row, 1, 3, [0, 1, 2, 3, 4, 5, 6])
        self.holds(row, 1, BIG, [0, 1, 2, 3, 4, 5, 6])

    def test_more_turns_may_tell_an_earlier_list(self):
        # One turn keeps three as well as none, and the first such list turns.
        self.holds([0, 10, 5, 15], 5, 0, [0, 1, 3])
        self.holds([0, 10, 5, 15], 5, 1, [0, 1, 2])
        self.holds([0, 10, 5, 15], 5, 2, [0, 1, 2, 3])

    def test_just_the_step_and_one_less(self):
        self.holds([0, 4, 8], 4, 0, [0, 1, 2])
        self.holds([0, 4, 7], 4, 0, [0, 1])
        self.holds([8, 4, 0], 4, 0, [0, 1, 2])
        self.holds([0, 4, 0], 4, 1, [0, 1, 2])
        self.holds([0, 4, 1], 4, 1, [0, 1])
        self.holds([0, BIG, 0], BIG, BIG, [0, 1, 2])
        self.holds([0, BIG - 1, 0], BIG, BIG, [0])

    def test_short_rows(self):
        for row, step, stepped in some_rows():
            for turns in (0, 1, 2, 3, len(row), len(row) + 1, BIG):
                self.holds(row, step, turns, first_turning(stepped, turns))

    def test_three_hundred_numbers(self):
        self.holds(BY_TURNS, 1, 0, [0, 1])
        self.holds(BY_TURNS, 1, 5, list(range(7)))
        self.holds(BY_TURNS, 1, 297, list(range(299)))
        self.holds(BY_TURNS, 1, 298, list(range(300)))
        self.holds(BY_TURNS, 1, BIG, list(range(300)))
        self.holds(list(range(300)), 1, 0, list(range(300)))
        self.holds(list(range(300)), 7, BIG, list(range(0, 300, 7)))
        self.holds(list(range(300, 0, -1)), 1, 3, list(range(300)))
        # Up to ninety-nine, down again, up again.
        row = list(range(100)) + list(range(98, -1, -1)) + list(range(1, 102))
        self.assertEqual(len(row), 300)
        self.holds(row, 1, 0, list(range(100)) + [298, 299])
        self.holds(row, 1, 1, list(range(99, 300)))
        self.holds(row, 1, 2, list(range(300)))

    def test_three_hundred_any_numbers(self):
        source = random.Random(42)
        row = [source.randrange(-BIG, BIG + 1) for k in range(300)]
        step = BIG // 10
        ahead = 0
        for turns in (0, 1, 4, 9):
            told = longest_turning(row, step, turns)
            self.assertTrue(all(abs(row[right] - row[left]) >= step for left, right in zip(told, told[1:])))
            self.assertEqual(told, sorted(set(told)))
            self.assertLessEqual(turning(row, told), turns)
            self.assertEqual(how_many_turns(row, told), turning(row, told))
            self.assertGreaterEqual(len(told), ahead)
            ahead = len(told)

    def test_wrong_turns(self):
        for turns in (-1, -2, -BIG):
            for row in ([], [1], [1, 9, 2]):
                with self.subTest(turns=turns, row=row):
                    with self.assertRaises(NoNumber):
                        longest_turning(row, 1, turns)

    def test_step_below_one_goes_first(self):
        for step in (0, -1, -BIG):
            for turns in (0, 1, BIG, -1, -BIG):
                for row in ([], [1, 9, 2]):
                    with self.subTest(step=step, turns=turns, row=row):
                        with self.assertRaises(NoStep):
                            longest_turning(row, step, turns)


class KeptByTurns(unittest.TestCase):
    """Point 18."""

    def holds(self, row, step, due):
        told = kept_by_turns(row, step)
        self.assertIs(type(told), list)
        self.assertEqual({type(number) for number in told}, {int})
        self.assertEqual(told, due, (row, step))

    def test_none_and_one(self):
        self.holds([], 1, [0])
        self.holds([7], 1, [1])
        self.holds([4, 4, 4], 1, [1])
        self.holds([1, 9], 9, [1])

    def test_plain(self):
        self.holds([1, 2, 3, 4], 1, [4])
        self.holds([4, 3, 2, 1], 1, [4])
        self.holds([1, 2, 3, 2, 1, 2, 3], 1, [3, 5, 7])
        self.holds([0, 1, 0, 1], 1, [2, 3, 4])

    def test_one_turn_alone_may_keep_no_more(self):
        self.holds([0, 10, 5, 15], 5, [3, 3, 4])

    def test_short_rows(self):
        for row, step, stepped in some_rows():
            self.holds(row, step, due_kept(row, stepped))

    def test_begins_rises_and_ends(self):
        source = random.Random(43)
        for k in range(20):
            row = [source.randrange(-20, 21) for number in range(source.randrange(1, 40))]
            step = source.randrange(1, 15)
            told = kept_by_turns(row, step)
            self.assertEqual(told, sorted(told))
            self.assertEqual(told.index(told[-1]), len(told) - 1)
            self.assertEqual(told, [len(longest_turning(row, step, turns)) for turns in range(len(told))])
            self.assertEqual(told[-1], len(longest_turning(row, step, BIG)))
            self.assertGreaterEqual(told[-1], how_long(row, step))

    def test_three_hundred_numbers(self):
        self.holds(BY_TURNS, 1, list(range(2, 301)))
        self.holds(list(range(300)), 1, [300])
        self.holds([3] * 300, BIG, [1])
        self.holds([-BIG, BIG] * 150, BIG, list(range(2, 301)))

    def test_step_below_one(self):
        for step in (0, -1, -BIG):
            for row in ([], [1], [1, 9, 2]):
                with self.assertRaises(NoStep):
                    kept_by_turns(row, step)


class FewestTurns(unittest.TestCase):
    """Point 19."""

    def holds(self, row, step, many, due):
        told = fewest_turns(row, step, many)
        if due is not None:
            self.assertIs(type(told), int)
        self.assertEqual(told, due, (row, step, many))

    def test_none_and_one(self):
        self.holds([], 1, 0, 0)
        self.holds([], 1, 1, None)
        self.holds([7], 1, 0, 0)
        self.holds([7], 1, 1, 0)
        self.holds([7], 1, 2, None)
        self.holds([4, 4], 1, 2, None)

    def test_plain(self):
        row = [1, 2, 3, 2, 1, 2, 3]
        for many, due in enumerate([0, 0, 0, 0, 1, 1, 2, 2, None, None]):
            self.holds(row, 1, many, due)
        for many, due in enumerate([0, 0, 0, 0, 2, None]):
            self.holds([0, 10, 5, 15], 5, many, due)
        self.holds(row, 1, BIG, None)

    def test_short_rows(self):
        for row, step, stepped in some_rows():
            most = max(len(places) for turns, places in stepped)
            for many in list(range(most + 3)) + [BIG]:
                due = min([turns for turns, places in stepped if len(places) >= many], default=None)
                self.holds(row, step, many, due)

    def test_three_hundred_numbers(self):
        self.holds(BY_TURNS, 1, 300, 298)
        self.holds(BY_TURNS, 1, 299, 297)
        self.holds(BY_TURNS, 1, 2, 0)
        self.holds(BY_TURNS, 1, 301, None)
        self.holds(list(range(300)), 1, 300, 0)

    def test_wrong_numbers(self):
        for many in (-1, -2, -BIG):
            for row in ([], [1], [1, 9, 2]):
                with self.subTest(many=many, row=row):
                    with self.assertRaises(NoNumber):
                        fewest_turns(row, 1, many)

    def test_step_below_one_goes_first(self):
        for step in (0, -1, -BIG):
            for many in (0, 1, BIG, -1, -BIG):
                for row in ([], [1, 9, 2]):
                    with self.subTest(step=step, many=many, row=row):
                        with self.assertRaises(NoStep):
                            fewest_turns(row, step, many)


class TheAskersOwn(unittest.TestCase):
    """Point 2."""

    def test_row_is_as_it_was(self):
        row = [1, 5, 2, 6, 6]
        for step in (1, 4, 9):
            longest_turning(row, step, 1)
            kept_by_turns(row, step)
            fewest_turns(row, step, 3)
        self.assertEqual(row, [1, 5, 2, 6, 6])

    def test_told_lists_are_new(self):
        for row in ([], [3], [1, 5, 2, 6]):
            for ask in (kept_by_turns, lambda row, step: longest_turning(row, step, 0),
                        lambda row, step: longest_turning(row, step, 2)):
                told = ask(row, 1)
                due = list(told)
                told.append(99)
                self.assertEqual(ask(row, 1), due)
                self.assertEqual(told, due + [99])

    def test_changed_rows_change_no_told_list(self):
        row = [1, 5, 2, 6]
        told, kept = longest_turning(row, 1, 2), kept_by_turns(row, 1)
        row.clear()
        self.assertEqual((told, kept), ([0, 1, 2, 3], [3, 3, 4]))


if __name__ == "__main__":
    unittest.main()
