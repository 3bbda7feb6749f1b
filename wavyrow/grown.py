"""A row that numbers are put behind and taken away from again."""

from wavyrow.counted import how_many_longest
from wavyrow.errors import NoNumber
from wavyrow.heavy import heaviest, refuse_weight
from wavyrow.longest import pieces_of
from wavyrow.waves import refuse_step


class Grown:
    """A grown row by a least step, at first without numbers."""

    def __init__(self, step):
        refuse_step(step)
        self.least_step = step
        self.numbers = []
        self.weights = []
        self.lengths = []

    def put(self, number, weight):
        """Put a number behind, with its weight."""
        refuse_weight(weight)
        self.numbers.append(number)
        self.weights.append(weight)
        self.lengths.append(self.length())

    def take(self, many):
        """Take the last so many numbers away."""
        if many < 0 or many > len(self.numbers):
            raise NoNumber("so many can be taken as there are, or fewer, or none")
        left = len(self.numbers) - many
        self.numbers = self.numbers[:left]
        self.weights = self.weights[:left]
        self.lengths.append(self.length())

    def length(self):
        """How many places the longest wavy places have."""
        # The bound of the paper is just that, and needs no places to be found.
        word, cuts = self.pieces()
        return len(cuts) + 1 if self.numbers else 0

    def pieces(self):
        """The paper by pieces."""
        return pieces_of(self.numbers, self.least_step)

    def weight(self):
        """The weight of the heaviest wavy places."""
        weight, places = heaviest(self.numbers, self.least_step, self.weights)
        return weight

    def how_many(self):
        """How many lists of the longest wavy places there are."""
        return how_many_longest(self.numbers, self.least_step)

    def row(self):
        """The numbers, in their order."""
        return list(self.numbers)

    def moments(self):
        """For each put and each take how many places the longest had behind it."""
        return list(self.lengths)
