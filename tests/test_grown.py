import random
import unittest

from oracle import BIG, by_length, due_paper, first_of_heaviest
from wavyrow.counted import how_many_longest
from wavyrow.errors import NoNumber, NoStep, NoWeights
from wavyrow.grown import Grown
from wavyrow.heavy import heaviest
from wavyrow.longest import how_long, pieces_of


def told_by(grown):
    """All that a grown row tells but its moments."""
    return (grown.length(), grown.pieces(), grown.weight(), grown.how_many(), grown.row())


def told_of(row, step, weights):
    """The same of the plain row."""
    return (how_long(row, step), pieces_of(row, step), heaviest(row, step, weights)[0],
            how_many_longest(row, step), row)


def grown_of(step, row, weights):
    grown = Grown(step)
    for number, weight in zip(row, weights):
        grown.put(number, weight)
    return grown


class PutAndTaken(unittest.TestCase):
    """Point 20."""

    def test_begins_without_numbers(self):
        for step in (1, 7, BIG):
            grown = Grown(step)
            self.assertEqual(told_by(grown), (0, ("up", []), 0, 1, []))
            self.assertEqual(grown.moments(), [])

    def test_plain(self):
        grown = Grown(3)
        for number, weight, length, heavy, many in ((5, 2, 1, 2, 1), (6, 0, 1, 2, 2), (2, 9, 2, 11, 2),
                                                    (9, 1, 3, 12, 2), (0, 0, 4, 12, 2)):
            grown.put(number, weight)
            self.assertEqual((grown.length(), grown.weight(), grown.how_many()), (length, heavy, many))
        self.assertEqual(grown.row(), [5, 6, 2, 9, 0])
        self.assertEqual(grown.pieces(), ("down", [2, 3, 4]))
        self.assertEqual(grown.moments(), [1, 1, 2, 3, 4])
        grown.take(3)
        self.assertEqual(told_by(grown), (1, ("up", []), 2, 2, [5, 6]))
        grown.take(0)
        self.assertEqual(told_by(grown), (1, ("up", []), 2, 2, [5, 6]))
        grown.take(2)
        self.assertEqual(told_by(grown), (0, ("up", []), 0, 1, []))
        grown.take(0)
        self.assertEqual(grown.moments(), [1, 1, 2, 3, 4, 1, 1, 0, 0])

    def test_kinds(self):
        for grown in (Grown(1), grown_of(1, [1, 5, 2], [1, 2, 3])):
            for number in (grown.length(), grown.weight(), grown.how_many()):
                self.assertIs(type(number), int)
            self.assertIs(type(grown.pieces()), tuple)
            self.assertIs(type(grown.pieces()[1]), list)
            self.assertIs(type(grown.row()), list)
            self.assertIs(type(grown.moments()), list)

    def test_put_and_take_tell_nothing(self):
        grown = Grown(1)
        self.assertIsNone(grown.put(1, 1))
        self.assertIsNone(grown.take(0))
        self.assertIsNone(grown.take(1))

    def test_many_puts_and_takes(self):
        source = random.Random(51)
        for step in (1, 3, 8, 15):
            grown, row, weights, moments = Grown(step), [], [], []
            for k in range(250):
                if source.randrange(3):
                    row.append(source.randrange(-9, 10))
                    weights.append(source.randrange(5))
                    grown.put(row[-1], weights[-1])
                else:
                    left = max(0, len(row) - source.choice((0, 1, 1, 2, 5, 9, 40)))
                    grown.take(len(row) - left)
                    row, weights = row[:left], weights[:left]
                moments.append(how_long(row, step))
                self.assertEqual(told_by(grown), told_of(row, step, weights))
                self.assertEqual(grown.moments(), moments)

    def test_short_rows_by_trying_everything(self):
        source = random.Random(52)
        for k in range(60):
            step = source.randrange(1, 5)
            grown, row, weights = Grown(step), [], []
            for number in range(source.randrange(1, 8)):
                row.append(source.randrange(6))
                weights.append(source.randrange(4))
                grown.put(row[-1], weights[-1])
                lists = by_length(row, step)
                due = (len(lists) - 1, due_paper(row, step), first_of_heaviest(row, step, weights)[0],
                       len(lists[-1]), row)
                self.assertEqual(told_by(grown), due)

    def test_large(self):
        row = [BIG if k % 2 else -BIG for k in range(300)]
        grown = grown_of(BIG, row, [BIG] * 300)
        self.assertEqual(told_by(grown), (300, ("up", list(range(1, 300))), 300 * BIG, 1, row))
        self.assertEqual(grown.moments(), list(range(1, 301)))
        grown.take(299)
        self.assertEqual(told_by(grown), (1, ("up", []), BIG, 1, [-BIG]))
        grown.put(-BIG, 0)
        self.assertEqual(told_by(grown), (1, ("up", []), BIG, 2, [-BIG, -BIG]))
        self.assertEqual(grown.moments(), list(range(1, 301)) + [1, 1])


class Refused(unittest.TestCase):
    """Points 3 and 20."""

    def test_step_below_one(self):
        for step in (0, -1, -BIG):
            with self.subTest(step=step):
                with self.assertRaises(NoStep):
                    Grown(step)

    def test_weight_below_nought(self):
        for grown in (Grown(1), grown_of(1, [1, 5, 2], [1, 2, 3])):
            due, moments = told_by(grown), grown.moments()
            for weight in (-1, -2, -BIG):
                with self.assertRaises(NoWeights):
                    grown.put(7, weight)
                self.assertEqual(told_by(grown), due)
                self.assertEqual(grown.moments(), moments)

    def test_wrong_takes(self):
        for grown, many in ((Grown(1), 0), (grown_of(1, [1, 5, 2], [1, 2, 3]), 3)):
            due, moments = told_by(grown), grown.moments()
            for wrong in (-1, -2, -BIG, many + 1, many + 2, BIG):
                with self.assertRaises(NoNumber):
                    grown.take(wrong)
                self.assertEqual(told_by(grown), due)
                self.assertEqual(grown.moments(), moments)
            grown.take(many)
            self.assertEqual(grown.moments(), moments + [0])
            with self.assertRaises(NoNumber):
                grown.take(1)

    def test_goes_on_behind_a_refusal(self):
        grown = grown_of(1, [1, 5], [1, 2])
        with self.assertRaises(NoWeights):
            grown.put(2, -1)
        with self.assertRaises(NoNumber):
            grown.take(3)
        grown.put(2, 3)
        self.assertEqual(told_by(grown), told_of([1, 5, 2], 1, [1, 2, 3]))
        self.assertEqual(grown.moments(), [1, 2, 3])


class TheAskersOwn(unittest.TestCase):
    """Point 2."""

    def test_told_lists_are_new(self):
        for grown in (Grown(1), grown_of(1, [1, 5, 2], [1, 2, 3])):
            due, moments = told_by(grown), grown.moments()
            grown.row().append(99)
            grown.moments().append(99)
            grown.pieces()[1].append(99)
            grown.row().clear()
            grown.moments().clear()
            grown.pieces()[1].clear()
            self.assertEqual(told_by(grown), due)
            self.assertEqual(grown.moments(), moments)

    def test_what_is_done_later_changes_no_told_list(self):
        grown = grown_of(1, [1, 5, 2], [1, 2, 3])
        row, moments, paper = grown.row(), grown.moments(), grown.pieces()
        grown.put(9, 1)
        grown.take(3)
        self.assertEqual((row, moments, paper), ([1, 5, 2], [1, 2, 3], ("up", [1, 2])))

    def test_asked_again(self):
        grown = grown_of(2, [1, 5, 2, 2], [1, 2, 3, 0])
        self.assertEqual([told_by(grown) for k in range(3)], [told_by(grown)] * 3)
        self.assertEqual(grown.moments(), [1, 2, 3, 3])

    def test_beside_one_another(self):
        one, another = Grown(1), Grown(4)
        one.put(1, 1)
        self.assertEqual(told_by(another), (0, ("up", []), 0, 1, []))
        another.put(7, 2)
        one.put(5, 1)
        another.put(4, 0)
        self.assertEqual(told_by(one), told_of([1, 5], 1, [1, 1]))
        self.assertEqual(told_by(another), told_of([7, 4], 4, [2, 0]))
        one.take(2)
        self.assertEqual(told_by(another), told_of([7, 4], 4, [2, 0]))
        self.assertEqual((one.moments(), another.moments()), ([1, 2, 0], [1, 1]))


class GrownOtherwise(unittest.TestCase):
    """Point 21."""

    def test_others_put_and_taken_between(self):
        source = random.Random(53)
        for k in range(40):
            row = [source.randrange(-9, 10) for number in range(source.randrange(12))]
            weights = [source.randrange(5) for number in row]
            step = source.randrange(1, 12)
            plain, otherwise = grown_of(step, row, weights), Grown(step)
            for number, weight in zip(row, weights):
                between = source.randrange(4)
                for other in range(between):
                    otherwise.put(source.randrange(-99, 100), source.randrange(99))
                otherwise.take(between)
                otherwise.put(number, weight)
            self.assertEqual(told_by(otherwise), told_by(plain))
            self.assertEqual(told_by(otherwise), told_of(row, step, weights))

    def test_moments_differ(self):
        plain, otherwise = grown_of(1, [1, 5], [1, 2]), Grown(1)
        for number in (1, 5, 2):
            otherwise.put(number, number)
        otherwise.take(2)
        otherwise.put(5, 2)
        self.assertEqual(told_by(otherwise), told_by(plain))
        self.assertEqual(otherwise.moments(), [1, 2, 3, 1, 2])
        self.assertEqual(plain.moments(), [1, 2])


if __name__ == "__main__":
    unittest.main()
