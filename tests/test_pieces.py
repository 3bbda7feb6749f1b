import random
import unittest

from oracle import BIG, STEPS, WORDS, all_places, bound, due_paper, first_of_longest, right_paper, short_rows
from wavyrow.errors import NoStep
from wavyrow.longest import how_long, pieces_of, pieces_show


class PiecesShow(unittest.TestCase):
    """Points 8 and 9."""

    def shows(self, row, step, word, cuts, due):
        self.assertIs(pieces_show(row, step, (word, cuts)), due, (row, step, word, cuts))

    def test_right_papers(self):
        self.shows([1, 5, 2, 6], 3, "up", [1, 2, 3], True)
        self.shows([5, 1, 6, 2], 3, "down", [1, 2, 3], True)
        self.shows([1, 1, 5, 6, 2, 1, 9], 3, "up", [2, 4, 6], True)

    def test_the_wrong_word_of_both(self):
        self.shows([1, 5, 2, 6], 3, "down", [1, 2, 3], False)
        self.shows([5, 1, 6, 2], 3, "up", [1, 2, 3], False)

    def test_another_word(self):
        for word in ("", "Up", "UP", "up ", " up", "downs", "u", "side", "up\n", "up down"):
            for row, cuts in (([], []), ([1], []), ([1, 2], [1])):
                with self.subTest(word=word, row=row):
                    self.shows(row, 1, word, cuts, False)

    def test_cuts_that_are_none(self):
        # All alike: any cuts are right here, so nothing but their form makes them wrong.
        row = [4, 4, 4, 4]
        for cuts in ([], [1], [3], [1, 2], [1, 3], [2, 3], [1, 2, 3]):
            for word in WORDS:
                self.shows(row, 1, word, cuts, True)
        for cuts in ([2, 1], [1, 3, 2], [1, 1], [2, 3, 3], [0], [0, 1], [-1], [-1, 2], [-BIG],
                     [4], [1, 4], [5], [1, 2, 3, 4], [BIG], [1, BIG], [2, 0]):
            for word in WORDS:
                self.shows(row, 1, word, cuts, False)

    def test_no_cuts(self):
        for word in WORDS:
            self.shows([1], 1, word, [], True)
            self.shows([4, 4], 1, word, [], True)
            self.shows([4, 6, 5], 3, word, [], True)
            self.shows([4, 6, 5], 2, word, [], False)
            self.shows([6, 4, 5], 2, word, [], False)

    def test_row_without_numbers(self):
        for word in WORDS:
            self.shows([], 1, word, [], True)
            for cuts in ([0], [1], [-1], [1, 2]):
                self.shows([], 1, word, cuts, False)

    def test_row_of_one_number(self):
        for word in WORDS:
            for cuts in ([0], [1]):
                self.shows([7], 1, word, cuts, False)

    def test_just_the_step_in_the_first_piece(self):
        self.shows([0, 4, 9], 4, "up", [2], False)
        self.shows([0, 3, 9], 4, "up", [2], True)
        self.shows([9, 5, 0], 4, "down", [2], False)
        self.shows([9, 6, 0], 4, "down", [2], True)
        # Not neighbours in the piece.
        self.shows([0, 2, 4, 9], 4, "up", [3], False)
        self.shows([0, 2, 3, 9], 4, "up", [3], True)

    def test_just_the_step_in_the_first_two_together(self):
        self.shows([5, 1], 4, "up", [1], False)
        self.shows([5, 2], 4, "up", [1], True)
        self.shows([1, 5], 4, "down", [1], False)
        self.shows([1, 4], 4, "down", [1], True)
        # Each of the pieces alone would be up.
        self.shows([5, 6, 2, 4], 4, "up", [2], False)
        self.shows([5, 6, 3, 4], 4, "up", [2], True)
        # In the second piece alone.
        self.shows([1, 9, 5], 4, "up", [1], False)
        self.shows([1, 9, 6], 4, "up", [1], True)
        self.shows([9, 1, 3, 5], 4, "down", [1], False)

    def test_just_the_step_in_a_later_piece(self):
        # The third piece is down where the word is up.
        self.shows([1, 9, 2, 6], 4, "up", [1, 2], False)
        self.shows([1, 9, 2, 5], 4, "up", [1, 2], True)
        self.shows([9, 1, 6, 2], 4, "down", [1, 2], False)
        self.shows([9, 1, 6, 3], 4, "down", [1, 2], True)
        # The fourth is up again, nearer or farther.
        self.shows([1, 9, 2, 8, 4], 4, "up", [1, 2, 3], False)
        self.shows([1, 9, 2, 8, 5], 4, "up", [1, 2, 3], True)
        self.shows([1, 9, 2, 8, 9, 7, 5], 4, "up", [1, 2, 3], False)
        self.shows([1, 9, 2, 8, 9, 7, 6], 4, "up", [1, 2, 3], True)

    def test_a_later_piece_begins_anew(self):
        self.shows([1, 9, 5, 8], 4, "up", [1, 2], True)
        self.shows([1, 9, 5, 1], 4, "up", [1, 2], True)

    def test_thirty_figures(self):
        self.shows([-BIG, BIG, -BIG], BIG, "up", [1, 2], True)
        self.shows([0, BIG - 1], BIG, "down", [], True)
        self.shows([0, BIG], BIG, "down", [], False)

    def test_all_papers_of_short_rows(self):
        for row in short_rows(5, range(3)):
            for step in (1, 2):
                most = len(first_of_longest(row, step))
                for cuts in all_places(len(row)):
                    for word in WORDS:
                        due = 0 not in cuts and right_paper(row, step, word, cuts)
                        self.shows(row, step, word, cuts, due)
                        if due:
                            self.assertLessEqual(most, bound(row, cuts))

    def test_any_papers_of_longer_rows(self):
        source = random.Random(9)
        right = 0
        for k in range(4000):
            row = [source.randrange(9) for number in range(source.randrange(4, 9))]
            step = source.randrange(1, 9)
            cuts = sorted(source.sample(range(1, len(row)), source.randrange(len(row))))
            word = source.choice(WORDS)
            due = right_paper(row, step, word, cuts)
            self.shows(row, step, word, cuts, due)
            if due:
                right += 1
                self.assertLessEqual(len(first_of_longest(row, step)), bound(row, cuts))
        self.assertGreater(right, 400)

    def test_step_below_one(self):
        papers = [("up", []), ("down", [1]), ("side", []), ("up", [0]), ("up", [2, 1]), ("", [BIG, -BIG])]
        for step in (0, -1, -BIG):
            for paper in papers:
                for row in ([], [4, 4, 4]):
                    with self.subTest(step=step, paper=paper, row=row):
                        with self.assertRaises(NoStep):
                            pieces_show(row, step, paper)


class PiecesOf(unittest.TestCase):
    """Point 10."""

    def holds(self, row, step):
        told = pieces_of(row, step)
        self.assertIs(type(told), tuple)
        self.assertIs(type(told[1]), list)
        self.assertEqual(told, due_paper(row, step), (row, step))
        self.assertIs(pieces_show(row, step, told), True, (row, step))
        self.assertEqual(bound(row, told[1]), how_long(row, step), (row, step))

    def test_without_a_cut(self):
        for row in ([], [3], [3, 3, 3], [3, 5, 4], [5, 3, 4]):
            self.assertEqual(pieces_of(row, 3), ("up", []))

    def test_plain_papers(self):
        self.assertEqual(pieces_of([1, 5], 4), ("up", [1]))
        self.assertEqual(pieces_of([5, 1], 4), ("down", [1]))
        self.assertEqual(pieces_of([1, 5, 2, 6], 3), ("up", [1, 2, 3]))
        self.assertEqual(pieces_of([5, 1, 6, 2], 3), ("down", [1, 2, 3]))
        self.assertEqual(pieces_of([1, 2, 3, 4], 1), ("up", [1]))
        self.assertEqual(pieces_of([4, 3, 2, 1], 1), ("down", [1]))

    def test_from_one_farther_ahead(self):
        self.assertEqual(pieces_of([3, 4, 5, 6], 3), ("up", [3]))
        self.assertEqual(pieces_of([4, 5, 3, 2], 3), ("down", [3]))
        self.assertEqual(pieces_of([1, 9, 8, 7, 6, 7, 8, 9], 3), ("up", [1, 4, 7]))

    def test_just_the_step_and_one_less(self):
        self.assertEqual(pieces_of([0, 3, 4], 4), ("up", [2]))
        self.assertEqual(pieces_of([0, 9, 6, 5], 4), ("up", [1, 3]))
        self.assertEqual(pieces_of([9, 0, 3, 4], 4), ("down", [1, 3]))

    def test_all_short_rows(self):
        for row in short_rows(6, range(3)):
            for step in (1, 2):
                self.holds(row, step)
        for row in short_rows(4, range(5)):
            for step in STEPS:
                self.holds(row, step)

    def test_longer_rows(self):
        source = random.Random(10)
        for k in range(40):
            row = [source.randrange(-20, 21) for number in range(source.randrange(8, 60))]
            self.holds(row, source.randrange(1, 25))

    def test_large(self):
        source = random.Random(11)
        self.holds([k % 2 for k in range(300)], 1)
        self.holds(list(range(300)), 7)
        self.holds([source.randrange(-50, 51) for k in range(300)], 5)
        self.holds([source.randrange(-BIG, BIG + 1) for k in range(300)], BIG)

    def test_step_below_one(self):
        for step in (0, -1, -BIG):
            for row in ([], [1], [1, 9, 2]):
                with self.subTest(step=step, row=row):
                    with self.assertRaises(NoStep):
                        pieces_of(row, step)


class TheAskersOwn(unittest.TestCase):
    """Point 2."""

    def test_handed_in_is_as_it_was(self):
        row, cuts = [1, 5, 2, 6], [1, 2, 3]
        paper = ("up", cuts)
        for step in (1, 3, 9):
            pieces_show(row, step, paper)
            pieces_of(row, step)
        self.assertEqual(row, [1, 5, 2, 6])
        self.assertEqual(paper, ("up", [1, 2, 3]))
        self.assertIs(paper[1], cuts)

    def test_told_cuts_are_new(self):
        for row in ([], [3, 3], [1, 5, 2, 6]):
            told = pieces_of(row, 3)
            due = list(told[1])
            told[1].append(99)
            self.assertEqual(pieces_of(row, 3)[1], due)
            self.assertEqual(told[1], due + [99])

    def test_a_changed_paper_is_another(self):
        row = [1, 5, 2, 6]
        paper = pieces_of(row, 3)
        self.assertIs(pieces_show(row, 3, paper), True)
        paper[1].pop()
        self.assertIs(pieces_show(row, 3, paper), False)
        self.assertEqual(pieces_of(row, 3), ("up", [1, 2, 3]))

    def test_asked_again(self):
        row = [4, 4, 9, 1]
        self.assertEqual([pieces_of(row, 2) for k in range(3)], [("up", [2, 3])] * 3)


if __name__ == "__main__":
    unittest.main()
