import random
import unittest

from oracle import BIG, STEPS, WORDS, begins, changed_into, fewest_by_choice, short_rows, wavy, wholly_wavy_rows
from wavyrow.errors import NoStep, NoText
from wavyrow.made import fewest_beginning, fewest_changed, made_wavy
from wavyrow.waves import are_wavy

BY_TURNS = [k % 2 for k in range(300)]
OTHER_WORDS = ("", "Up", "UP", "Down", "DOWN", " up", "up ", "down ", " down", "up\n", "\nup", "down\n", "u", "upp",
               "up down", "updown", "none", "0", "1")


def some_rows():
    """Short rows and steps."""
    for row in short_rows(6, range(3)):
        for step in (1, 2):
            yield row, step
    source = random.Random(81)
    for k in range(80):
        yield [source.randrange(-6, 7) for number in range(source.randrange(6, 11))], source.randrange(1, 8)


def long_rows():
    """Rows of three hundred numbers, and steps."""
    yield BY_TURNS, 1
    yield BY_TURNS, 2
    yield list(range(300)), 1
    yield list(range(300, 0, -1)), 3
    yield [7] * 300, 1
    yield [BIG] * 300, BIG
    yield [-BIG, BIG] * 150, BIG
    source = random.Random(82)
    for step in (1, BIG // 9, BIG):
        yield [source.randrange(-BIG, BIG + 1) for k in range(300)], step


class FewestChanged(unittest.TestCase):
    """Point 27."""

    def holds(self, row, step, due):
        told = fewest_changed(row, step)
        self.assertIs(type(told), tuple)
        self.assertEqual([type(each) for each in told], [int, list])
        self.assertEqual(told, due, (row, step))

    def test_none_one_two(self):
        self.holds([], 1, (0, []))
        self.holds([7], 1, (0, [0]))
        self.holds([-7], BIG, (0, [0]))
        self.holds([7, 9], 2, (0, [0, 1]))
        self.holds([9, 7], 2, (0, [0, 1]))
        self.holds([7, 9], 3, (1, [0]))
        self.holds([7, 7], 1, (1, [0]))

    def test_alike_rising_falling_wavy(self):
        self.holds([4, 4, 4], 1, (1, [0, 2]))
        self.holds([4, 4, 4, 4], 1, (2, [0, 2]))
        self.holds([1, 2, 3], 1, (1, [0, 1]))
        self.holds([1, 2, 3, 4], 1, (1, [0, 1, 3]))
        self.holds([4, 3, 2, 1], 1, (1, [0, 1, 3]))
        self.holds([1, 2, 3, 4, 5], 1, (2, [0, 1, 3]))
        self.holds([1, 5, 2, 6], 1, (0, [0, 1, 2, 3]))
        self.holds([5, 1, 6, 2], 4, (0, [0, 1, 2, 3]))

    def test_first_step_the_other_way(self):
        # With the step between the first two gone down, all behind them may stay.
        self.holds([1, 2, 3, 1, 3, 1], 1, (1, [0, 2, 3, 4, 5]))

    def test_just_the_step_and_one_less(self):
        self.holds([0, 4, 0, 4], 4, (0, [0, 1, 2, 3]))
        self.holds([0, 4, 0, 3], 4, (1, [0, 1, 2]))
        self.holds([1, 4, 0, 4], 4, (1, [0, 2, 3]))
        self.holds([0, 3, 0, 4], 4, (1, [0, 2, 3]))
        self.holds([0, 4, 0, 4], 5, (2, [0, 2]))
        self.holds([0, BIG, 0], BIG, (0, [0, 1, 2]))
        self.holds([0, BIG, 1], BIG, (1, [0, 1]))

    def test_all_changes_of_short_rows(self):
        for count in range(5):
            for step in (1, 2):
                # Whatever can be done at all can be done by numbers that lie the step beyond all of the row's.
                mades = wholly_wavy_rows(count, step, range(-step, 3 + step))
                for row in short_rows(count, range(3)):
                    if len(row) == count:
                        self.holds(row, step, min(changed_into(row, made) for made in mades))

    def test_all_choices_of_short_rows(self):
        for row, step in some_rows():
            self.holds(row, step, min(fewest_by_choice(row, step, word) for word in WORDS))

    def test_three_hundred_numbers(self):
        self.holds(BY_TURNS, 1, (0, list(range(300))))
        self.holds(BY_TURNS, 2, (150, list(range(0, 300, 2))))
        self.holds([7] * 300, 1, (150, list(range(0, 300, 2))))
        self.holds([-BIG, BIG] * 150, BIG, (0, list(range(300))))
        # Every other step of a rising row goes the right way: the two of it stay, and one of the next two.
        rising = list(range(300))
        self.holds(rising, 1, (149, [0] + list(range(1, 300, 2))))

    def test_step_below_one(self):
        for step in (0, -1, -BIG):
            for row in ([], [1], [1, 9, 2]):
                with self.assertRaises(NoStep):
                    fewest_changed(row, step)


class MadeWavy(unittest.TestCase):
    """Point 28."""

    def holds(self, row, step):
        told = made_wavy(row, step)
        self.assertIs(type(told), list)
        self.assertEqual(len(told), len(row))
        self.assertTrue(all(type(number) is int for number in told))
        everything = list(range(len(row)))
        self.assertIs(are_wavy(told, step, everything), True, (row, step, told))
        self.assertTrue(wavy(told, step, everything))
        self.assertEqual(changed_into(row, told), fewest_changed(row, step), (row, step, told))

    def test_few(self):
        for row in ([], [7], [7, 7], [7, 9], [9, 7], [4, 4, 4], [1, 2, 3], [3, 2, 1]):
            for step in (1, 2, 3, BIG):
                self.holds(row, step)

    def test_wavy_rows_stay(self):
        for row, step in (([], 1), ([7], 9), ([1, 5, 2, 6], 1), ([0, 4, 0, 4], 4), ([5, 1, 5], 4)):
            self.assertEqual(made_wavy(row, step), row)

    def test_short_rows(self):
        for row, step in some_rows():
            self.holds(row, step)

    def test_three_hundred_numbers(self):
        for row, step in long_rows():
            self.holds(row, step)

    def test_thirty_figures(self):
        for row in ([BIG, BIG], [-BIG, -BIG, -BIG], [BIG, -BIG, BIG, BIG], [0, BIG, 1]):
            for step in (1, BIG - 1, BIG):
                self.holds(row, step)

    def test_made_again(self):
        source = random.Random(83)
        for k in range(40):
            row = [source.randrange(-BIG, BIG + 1) for number in range(source.randrange(20))]
            step = source.randrange(1, BIG + 1)
            made = made_wavy(row, step)
            self.assertEqual(fewest_changed(made, step), (0, list(range(len(row)))))
            self.assertEqual(made_wavy(made, step), made)

    def test_step_below_one(self):
        for step in (0, -1, -BIG):
            for row in ([], [1], [1, 9, 2]):
                with self.assertRaises(NoStep):
                    made_wavy(row, step)


class FewestBeginning(unittest.TestCase):
    """Point 29."""

    def holds(self, row, step, word, due):
        told = fewest_beginning(row, step, word)
        self.assertIs(type(told), tuple)
        self.assertEqual([type(each) for each in told], [int, list])
        self.assertEqual(told, due, (row, step, word))

    def test_none_one_two(self):
        for word in WORDS:
            self.holds([], 1, word, (0, []))
            self.holds([7], 1, word, (0, [0]))
            self.holds([7], BIG, word, (0, [0]))
            self.holds([7, 7], 1, word, (1, [0]))
        self.holds([7, 9], 2, "up", (0, [0, 1]))
        self.holds([7, 9], 2, "down", (1, [0]))
        self.holds([9, 7], 2, "down", (0, [0, 1]))
        self.holds([9, 7], 2, "up", (1, [0]))
        self.holds([7, 9], 3, "up", (1, [0]))

    def test_plain(self):
        self.holds([1, 5, 2, 6], 1, "up", (0, [0, 1, 2, 3]))
        self.holds([1, 5, 2, 6], 1, "down", (2, [0, 2]))
        self.holds([1, 2, 3, 4], 1, "up", (1, [0, 1, 3]))
        self.holds([1, 2, 3, 4], 1, "down", (2, [0, 2]))
        self.holds([1, 2, 3, 1, 3, 1], 1, "up", (2, [0, 1, 3, 5]))
        self.holds([1, 2, 3, 1, 3, 1], 1, "down", (1, [0, 2, 3, 4, 5]))

    def test_all_changes_of_short_rows(self):
        for count in range(5):
            for step in (1, 2):
                mades = wholly_wavy_rows(count, step, range(-step, 3 + step))
                for word in WORDS:
                    begun = [made for made in mades if begins(made, word)]
                    for row in short_rows(count, range(3)):
                        if len(row) == count:
                            self.holds(row, step, word, min(changed_into(row, made) for made in begun))

    def test_all_choices_of_short_rows(self):
        for row, step in some_rows():
            for word in WORDS:
                self.holds(row, step, word, fewest_by_choice(row, step, word))

    def test_the_fewer_of_both(self):
        rows = list(some_rows()) + list(long_rows())
        for row, step in rows:
            self.assertEqual(min(fewest_beginning(row, step, word) for word in WORDS), fewest_changed(row, step))

    def test_three_hundred_numbers(self):
        self.holds(BY_TURNS, 1, "up", (0, list(range(300))))
        self.holds(BY_TURNS, 1, "down", (150, list(range(0, 300, 2))))
        self.holds([BIG, 0] * 150, BIG, "down", (0, list(range(300))))
        self.holds([BIG, 0] * 150, BIG, "up", (150, list(range(0, 300, 2))))

    def test_another_word(self):
        for word in OTHER_WORDS:
            for row in ([], [1], [1, 9, 2]):
                for step in (1, BIG, 0, -1, -BIG):
                    with self.subTest(word=word, row=row, step=step):
                        with self.assertRaises(NoText):
                            fewest_beginning(row, step, word)

    def test_step_below_one(self):
        for step in (0, -1, -BIG):
            for word in WORDS:
                for row in ([], [1], [1, 9, 2]):
                    with self.assertRaises(NoStep):
                        fewest_beginning(row, step, word)


class TheAskersOwn(unittest.TestCase):
    """Point 2."""

    def test_row_is_as_it_was(self):
        row = [1, 5, 5, 6, 6]
        for step in STEPS:
            fewest_changed(row, step)
            made_wavy(row, step)
            for word in WORDS:
                fewest_beginning(row, step, word)
        self.assertEqual(row, [1, 5, 5, 6, 6])

    def test_told_lists_are_new(self):
        for row in ([], [3], [1, 5, 2, 6], [1, 1, 1]):
            before = list(row)
            for ask in (made_wavy, lambda row, step: fewest_changed(row, step)[1],
                        lambda row, step: fewest_beginning(row, step, "up")[1]):
                told = ask(row, 1)
                due = list(told)
                told.append(99)
                self.assertEqual(row, before)
                self.assertEqual(ask(row, 1), due)
                self.assertEqual(told, due + [99])

    def test_changed_rows_change_no_told_list(self):
        row = [1, 5, 2, 6]
        told, made = fewest_changed(row, 1), made_wavy(row, 1)
        row.clear()
        self.assertEqual((told, made), ((0, [0, 1, 2, 3]), [1, 5, 2, 6]))


if __name__ == "__main__":
    unittest.main()
