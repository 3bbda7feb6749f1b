"""A desk that is told rows of words and numbers and answers each by a text."""

from wavyrow.counted import counts, first_longest
from wavyrow.errors import NoForm, NoneYet
from wavyrow.grown import Grown
from wavyrow.heavy import heaviest
from wavyrow.longest import longest
from wavyrow.texts import are_figures, is_number, row_text
from wavyrow.turns import longest_turning

# N is a number as in a row's text, F one of few figures and not below 0.
FORMS = (
    "step N", "put N F", "put N", "take F", "row", "long", "paper", "heavy", "many", "count", "turns F", "all F",
)
FEW_FIGURES = 6


def fits_slot(word, slot):
    """Whether the word may stand where the form has the slot."""
    if slot == "N":
        return is_number(word)
    if slot == "F":
        return are_figures(word, FEW_FIGURES)
    return word == slot


def fits(words, form):
    """Whether the words of a row have the form."""
    slots = form.split(" ")
    return len(words) == len(slots) and all([fits_slot(word, slot) for word, slot in zip(words, slots)])


def put_number(grown, numbers):
    """Put a number behind, with the weight 1 where none is told: how many the longest have then."""
    number, weight = (numbers + [1])[:2]
    grown.put(number, weight)
    return str(grown.length())


def take_numbers(grown, numbers):
    """Take the last so many away: how many the longest have then."""
    grown.take(numbers[0])
    return str(grown.length())


def tell_row(grown, numbers):
    """The row's text."""
    return row_text(grown.row())


def tell_long(grown, numbers):
    """The longest places."""
    return row_text(longest(grown.row(), grown.least_step))


def tell_paper(grown, numbers):
    """The word and the cuts of the paper by pieces."""
    word, cuts = grown.pieces()
    return " ".join([word] + [str(cut) for cut in cuts])


def tell_heavy(grown, numbers):
    """The weight and the places of the heaviest."""
    weight, places = heaviest(grown.row(), grown.least_step, grown.weights)
    return row_text([weight] + places)


def tell_many(grown, numbers):
    """How many of the longest there are."""
    return str(grown.how_many())


def tell_count(grown, numbers):
    """How many lists of wavy places there are, by how many they have."""
    return row_text(counts(grown.row(), grown.least_step))


def tell_turns(grown, numbers):
    """How many can be kept with at most so many turns."""
    return str(len(longest_turning(grown.row(), grown.least_step, numbers[0])))


def tell_all(grown, numbers):
    """The first so many of the longest."""
    lists = first_longest(grown.row(), grown.least_step, numbers[0])
    if not lists:
        return "none"
    return " / ".join([row_text(places) if places else "-" for places in lists])


ANSWERS = {
    "put": put_number,
    "take": take_numbers,
    "row": tell_row,
    "long": tell_long,
    "paper": tell_paper,
    "heavy": tell_heavy,
    "many": tell_many,
    "count": tell_count,
    "turns": tell_turns,
    "all": tell_all,
}


class Desk:
    """A desk, at first without a step."""

    def __init__(self):
        self.grown = None

    def say(self, row):
        """The answer to a row."""
        words = row.split(" ")
        if not any([fits(words, form) for form in FORMS]):
            raise NoForm("a row is one of: " + ", ".join(FORMS))
        numbers = [int(word) for word in words[1:]]
        if words[0] == "step":
            # A step that is refused leaves the row that stands.
            self.grown = Grown(numbers[0])
            return f"step {numbers[0]}"
        if self.grown is None:
            raise NoneYet("a step is told ahead of all else")
        answer = ANSWERS[words[0]]
        return answer(self.grown, numbers)
