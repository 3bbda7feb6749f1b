import itertools
import random
import unittest

from oracle import BIG, STEPS, all_places, first_of_heaviest, right_weights, short_rows, wavy, weights_bound
from wavyrow.errors import NoStep, NoWeights
from wavyrow.heavy import heaviest, weights_paper, weights_show
from wavyrow.longest import how_long, longest

WRONG_WEIGHTS = ([], [1], [1, 1], [1, 1, 1, 1], [1, 1, -1], [-1, 1, 1], [0, -1, 0], [5, -BIG, 5], [-1, -1, -1, -1])


class Heaviest(unittest.TestCase):
    """Point 11."""

    def holds(self, row, step, weights, due):
        told = heaviest(row, step, weights)
        self.assertIs(type(told), tuple)
        self.assertEqual(len(told), 2)
        self.assertIs(type(told[0]), int)
        self.assertIs(type(told[1]), list)
        self.assertEqual(told, due, (row, step, weights))

    def test_nothing_weighs(self):
        self.holds([], 1, [], (0, []))
        self.holds([7], 1, [0], (0, []))
        self.holds([1, 5, 2, 6], 1, [0, 0, 0, 0], (0, []))

    def test_one_number(self):
        self.holds([7], 1, [3], (3, [0]))
        self.holds([-7], BIG, [BIG], (BIG, [0]))

    def test_the_heavier_not_the_longer(self):
        self.holds([1, 5, 2, 6, 7], 1, [1, 1, 1, 1, 9], (12, [0, 1, 2, 4]))
        self.holds([1, 2, 3, 4], 1, [1, 2, 3, 9], (12, [2, 3]))
        self.holds([5, 4, 5, 4], 9, [1, 2, 3, 2], (3, [2]))

    def test_the_fewest_of_equal_weight(self):
        # [0, 1, 2] comes first as lists, and weighs no more.
        self.holds([1, 5, 2], 1, [1, 0, 1], (2, [0, 2]))
        self.holds([9, 1, 5, 0], 1, [0, 3, 0, 0], (3, [1]))
        self.holds([1, 9, 1, 9], 1, [2, 0, 0, 2], (4, [0, 3]))

    def test_what_weighs_nothing_joins_where_it_must(self):
        self.holds([5, 9, 5], 1, [1, 0, 1], (2, [0, 1, 2]))
        self.holds([5, 1, 5], 1, [1, 0, 1], (2, [0, 1, 2]))
        self.holds([5, 9, 1, 5], 4, [1, 0, 0, 1], (2, [0, 1, 3]))

    def test_the_first_of_equal_weight_and_number(self):
        self.holds([3, 3, 3], 1, [4, 4, 4], (4, [0]))
        self.holds([1, 1, 5, 5], 1, [2, 2, 3, 3], (5, [0, 2]))
        self.holds([5, 6, 2, 8], 3, [1, 1, 1, 1], (3, [0, 2, 3]))

    def test_just_the_step_and_one_less(self):
        self.holds([0, 4], 4, [1, 2], (3, [0, 1]))
        self.holds([0, 3], 4, [1, 2], (2, [1]))
        self.holds([4, 0], 4, [1, 2], (3, [0, 1]))
        self.holds([3, 0], 4, [1, 2], (2, [1]))

    def test_all_weights_of_short_rows(self):
        for row in short_rows(4, range(3)):
            for weights in itertools.product(range(3), repeat=len(row)):
                for step in (1, 2):
                    self.holds(row, step, list(weights), first_of_heaviest(row, step, weights))

    def test_longer_rows(self):
        source = random.Random(21)
        for k in range(150):
            row = [source.randrange(-5, 6) for number in range(source.randrange(5, 10))]
            weights = [source.choice((0, 0, 1, 1, 2, 3)) for number in row]
            step = source.randrange(1, 6)
            self.holds(row, step, weights, first_of_heaviest(row, step, weights))

    def test_weights_all_one(self):
        source = random.Random(22)
        for k in range(40):
            row = [source.randrange(-20, 21) for number in range(source.randrange(40))]
            step = source.randrange(1, 20)
            weight, places = heaviest(row, step, [1] * len(row))
            self.assertEqual((weight, places), (how_long(row, step), longest(row, step)))

    def test_thirty_figures(self):
        self.holds([-BIG, BIG, 0], BIG, [BIG, BIG, BIG], (3 * BIG, [0, 1, 2]))
        self.holds([-BIG, BIG, 1], BIG, [BIG, BIG - 1, BIG], (2 * BIG, [0, 2]))
        self.holds([0, BIG - 1], BIG, [BIG - 1, BIG], (BIG, [1]))

    def test_three_hundred_numbers(self):
        by_turns = [k % 2 for k in range(300)]
        self.holds(by_turns, 1, [BIG] * 300, (300 * BIG, list(range(300))))
        self.holds(list(range(300)), 1, list(range(300)), (597, [298, 299]))
        self.holds([3] * 300, 1, [1] * 299 + [2], (2, [299]))
        source = random.Random(23)
        row = [source.randrange(-40, 41) for k in range(300)]
        weights = [source.randrange(9) for k in range(300)]
        weight, places = heaviest(row, 5, weights)
        self.assertTrue(wavy(row, 5, places))
        self.assertEqual(weight, sum(weights[place] for place in places))

    def test_wrong_weights(self):
        for weights in WRONG_WEIGHTS:
            with self.subTest(weights=weights):
                with self.assertRaises(NoWeights):
                    heaviest([1, 9, 2], 1, weights)
        for weights in ([0], [-1], [1, 2]):
            with self.assertRaises(NoWeights):
                heaviest([], 1, weights)

    def test_step_below_one_goes_first(self):
        for step in (0, -1, -BIG):
            for weights in ([1, 1, 1],) + WRONG_WEIGHTS:
                with self.subTest(step=step, weights=weights):
                    with self.assertRaises(NoStep):
                        heaviest([1, 9, 2], step, weights)
        with self.assertRaises(NoStep):
            heaviest([], 0, [])


class WeightsShow(unittest.TestCase):
    """Point 12."""

    def shows(self, row, step, weights, paper, due):
        self.assertIs(weights_show(row, step, weights, paper), due, (row, step, weights, paper))

    def test_none_of_a_row_without_numbers(self):
        self.shows([], 1, [], [], True)
        self.shows([], 1, [], [(0, 0)], False)

    def test_told_and_changed(self):
        row, weights = [4, 9, 1, 6, 6], [2, 3, 1, 0, 5]
        paper = weights_paper(row, 3, weights)
        self.shows(row, 3, weights, paper, True)
        self.shows(row, 3, weights, [(up + 7, down + 7) for up, down in paper], True)
        self.shows(row, 3, weights, paper[:-1], False)
        self.shows(row, 3, weights, paper[1:], False)
        self.shows(row, 3, weights, paper + [(99, 99)], False)
        self.shows(row, 3, weights, [(99, 99)] + paper, False)
        self.shows(row, 3, weights, [], False)
        for place, (up, down) in enumerate(paper):
            for less in ((up - 1, down), (up, down - 1)):
                self.shows(row, 3, weights, paper[:place] + [less] + paper[place + 1:], False)

    def test_one_more_by_one(self):
        # What is more at one place may ask for more behind it: here up of 1 needs down of 0.
        self.shows([1, 5], 3, [2, 3], [(2, 2), (5, 3)], True)
        self.shows([1, 5], 3, [2, 3], [(2, 3), (5, 3)], False)
        self.shows([1, 5], 3, [2, 3], [(2, 3), (6, 3)], True)
        self.shows([1, 5], 3, [2, 3], [(9, 2), (5, 3)], True)
        self.shows([5, 1], 3, [2, 3], [(2, 2), (3, 5)], True)
        self.shows([5, 1], 3, [2, 3], [(3, 2), (3, 5)], False)
        self.shows([5, 1], 3, [2, 3], [(3, 2), (3, 6)], True)
        self.shows([5, 1], 3, [2, 3], [(2, 9), (3, 5)], True)
        self.shows([5, 5], 3, [2, 3], [(9, 9), (3, 3)], True)

    def test_not_only_neighbours(self):
        self.shows([1, 3, 5], 4, [5, 1, 1], [(5, 5), (1, 1), (1, 1)], False)
        self.shows([1, 3, 5], 4, [5, 1, 1], [(5, 5), (1, 1), (5, 1)], False)
        self.shows([1, 3, 5], 4, [5, 1, 1], [(5, 5), (1, 1), (6, 1)], True)

    def test_just_the_step_and_one_less(self):
        alone = [(2, 2), (3, 3)]
        self.shows([0, 4], 4, [2, 3], alone, False)
        self.shows([0, 3], 4, [2, 3], alone, True)
        self.shows([4, 0], 4, [2, 3], alone, False)
        self.shows([3, 0], 4, [2, 3], alone, True)
        self.shows([0, BIG], BIG, [2, 3], alone, False)
        self.shows([0, BIG - 1], BIG, [2, 3], alone, True)

    def test_numbers_of_any_size(self):
        great = 10 ** 60 - 1
        self.shows([1, 9], 1, [0, 0], [(0, -1), (0, 0)], False)
        self.shows([1, 9], 1, [0, 0], [(0, 0), (0, -great)], False)
        self.shows([1, 9], 1, [0, 0], [(-great, -great), (-great, -great)], False)
        self.shows([1, 9], 1, [1, 1], [(1, great), (great, 1)], False)
        self.shows([1, 9], 1, [1, 1], [(1, great), (great + 1, 1)], True)
        self.shows([1, 9], 1, [BIG, BIG], [(BIG, great), (great + BIG - 1, BIG)], False)
        self.shows([1, 9], 1, [BIG, BIG], [(BIG, great), (great + BIG, BIG)], True)

    def test_all_papers_of_short_rows(self):
        right = 0
        for row in short_rows(2, range(3)):
            for weights in itertools.product(range(2), repeat=len(row)):
                most = {step: first_of_heaviest(row, step, weights)[0] for step in (1, 2)}
                for numbers in itertools.product(range(-1, 4), repeat=2 * len(row)):
                    paper = list(zip(numbers[::2], numbers[1::2]))
                    for step in (1, 2):
                        due = right_weights(row, step, weights, paper)
                        self.shows(row, step, list(weights), paper, due)
                        if due:
                            right += 1
                            self.assertLessEqual(most[step], weights_bound(paper))
        self.assertGreater(right, 1000)

    def test_any_papers_of_longer_rows(self):
        source = random.Random(24)
        right = 0
        for k in range(3000):
            row = [source.randrange(9) for number in range(source.randrange(3, 7))]
            weights = [source.randrange(4) for number in row]
            step = source.randrange(1, 9)
            slack = source.choice((0, 3, 9))
            paper = [(up + source.randrange(-1, slack + 1), down + source.randrange(-1, slack + 1))
                     for up, down in weights_paper(row, step, weights)]
            due = right_weights(row, step, weights, paper)
            self.shows(row, step, weights, paper, due)
            if due:
                right += 1
                self.assertLessEqual(first_of_heaviest(row, step, weights)[0], weights_bound(paper))
        self.assertGreater(right, 200)

    def test_wrong_weights_whatever_the_paper_is(self):
        for weights in WRONG_WEIGHTS:
            for paper in ([], [(1, 1)] * 3, [(9, 9)] * 3, [(-1, -1)], [(1, 1)] * len(weights)):
                with self.subTest(weights=weights, paper=paper):
                    with self.assertRaises(NoWeights):
                        weights_show([1, 9, 2], 1, weights, paper)

    def test_step_below_one_goes_first(self):
        for step in (0, -1, -BIG):
            for weights in ([1, 1, 1],) + WRONG_WEIGHTS:
                for paper in ([], [(9, 9)] * 3, [(-1, -1)]):
                    with self.subTest(step=step, weights=weights, paper=paper):
                        with self.assertRaises(NoStep):
                            weights_show([1, 9, 2], step, weights, paper)


class WeightsPaper(unittest.TestCase):
    """Point 13."""

    def holds(self, row, step, weights):
        told = weights_paper(row, step, weights)
        self.assertIs(type(told), list)
        self.assertEqual(len(told), len(row))
        for pair in told:
            self.assertIs(type(pair), tuple)
            self.assertEqual([type(number) for number in pair], [int, int])
        self.assertTrue(right_weights(row, step, weights, told))
        self.assertIs(weights_show(row, step, weights, told), True)
        self.assertEqual(weights_bound(told), heaviest(row, step, weights)[0])
        return told

    def test_plain_papers(self):
        self.assertEqual(self.holds([], 1, []), [])
        self.assertEqual(self.holds([7], 1, [3]), [(3, 3)])
        self.assertEqual(self.holds([1, 5, 2], 1, [1, 2, 4]), [(1, 1), (3, 2), (5, 7)])
        self.assertEqual(self.holds([5, 1, 6], 4, [1, 2, 4]), [(1, 1), (2, 3), (7, 4)])
        self.assertEqual(self.holds([5, 5], 1, [1, 2]), [(1, 1), (2, 2)])
        self.assertEqual(self.holds([1, 5], 5, [1, 2]), [(1, 1), (2, 2)])

    def test_no_number_can_be_less(self):
        # Held against all right papers, not only against those with one number changed.
        source = random.Random(25)
        for k in range(25):
            row = [source.randrange(4) for number in range(2)]
            weights = [source.randrange(3) for number in row]
            told = self.holds(row, 1, weights)
            for numbers in itertools.product(range(5), repeat=4):
                paper = list(zip(numbers[::2], numbers[1::2]))
                if right_weights(row, 1, weights, paper):
                    for least, pair in zip(told, paper):
                        self.assertLessEqual(least[0], pair[0])
                        self.assertLessEqual(least[1], pair[1])

    def test_each_number_is_that_of_some_places(self):
        # A number that wavy places ending there weigh can't be less in any right paper.
        for row in short_rows(4, range(3)):
            weights = [(k * 5 + 3) % 4 for k in range(len(row))]
            for step in STEPS:
                told = self.holds(row, step, weights)
                due = [[weight, weight] for weight in weights]
                for places in all_places(len(row)):
                    if len(places) > 1 and wavy(row, step, places):
                        kind = 0 if row[places[-1]] > row[places[-2]] else 1
                        weight = sum(weights[place] for place in places)
                        due[places[-1]][kind] = max(due[places[-1]][kind], weight)
                self.assertEqual(told, [tuple(pair) for pair in due], (row, step, weights))

    def test_large(self):
        source = random.Random(26)
        self.holds([k % 2 for k in range(300)], 1, [BIG] * 300)
        self.holds([source.randrange(-BIG, BIG + 1) for k in range(300)], BIG,
                   [source.randrange(BIG + 1) for k in range(300)])
        self.holds([source.randrange(-50, 51) for k in range(300)], 5, [source.randrange(9) for k in range(300)])

    def test_wrong_weights(self):
        for weights in WRONG_WEIGHTS:
            with self.subTest(weights=weights):
                with self.assertRaises(NoWeights):
                    weights_paper([1, 9, 2], 1, weights)

    def test_step_below_one_goes_first(self):
        for step in (0, -1, -BIG):
            for weights in ([1, 1, 1],) + WRONG_WEIGHTS:
                with self.subTest(step=step, weights=weights):
                    with self.assertRaises(NoStep):
                        weights_paper([1, 9, 2], step, weights)


class TheAskersOwn(unittest.TestCase):
    """Points 2 and 3."""

    def test_handed_in_is_as_it_was(self):
        row, weights, paper = [1, 5, 2, 6], [1, 0, 2, 3], [(1, 1), (9, 9), (9, 9), (9, 9)]
        for step in (1, 3, 9):
            heaviest(row, step, weights)
            weights_show(row, step, weights, paper)
            weights_paper(row, step, weights)
        for call in (heaviest, weights_paper):
            with self.assertRaises(NoStep):
                call(row, 0, weights)
        weights.append(-1)
        with self.assertRaises(NoWeights):
            weights_show(row, 1, weights, paper)
        self.assertEqual(row, [1, 5, 2, 6])
        self.assertEqual(weights, [1, 0, 2, 3, -1])
        self.assertEqual(paper, [(1, 1), (9, 9), (9, 9), (9, 9)])

    def test_told_lists_are_new(self):
        for row, weights in (([], []), ([3], [0]), ([3], [2]), ([1, 5, 2], [1, 1, 1])):
            told, paper = heaviest(row, 1, weights), weights_paper(row, 1, weights)
            due, due_paper = (told[0], list(told[1])), list(paper)
            told[1].append(99)
            paper.append((99, 99))
            self.assertEqual(heaviest(row, 1, weights), due)
            self.assertEqual(weights_paper(row, 1, weights), due_paper)
            self.assertEqual((told[1], paper), (due[1] + [99], due_paper + [(99, 99)]))

    def test_changed_weights_change_no_told_list(self):
        row, weights = [1, 5, 2], [1, 1, 1]
        told, paper = heaviest(row, 1, weights), weights_paper(row, 1, weights)
        row.clear()
        weights.clear()
        self.assertEqual(told, (3, [0, 1, 2]))
        self.assertEqual(paper, [(1, 1), (2, 1), (2, 3)])
        self.assertEqual(heaviest(row, 1, weights), (0, []))


if __name__ == "__main__":
    unittest.main()
