"""Rows as texts, and texts as rows."""

from wavyrow.errors import NoText

MOST_FIGURES = 30
NO_NUMBERS = "none"


def are_figures(word, most):
    """Whether the word is one figure to so many at most, without noughts ahead."""
    # The figures of other scripts are figures to isdigit, too.
    if not word.isascii() or not word.isdigit() or len(word) > most:
        return False
    return word == "0" or not word.startswith("0")


def is_number(word):
    """Whether the word is a number as it stands in a row's text."""
    return word != "-0" and are_figures(word.removeprefix("-"), MOST_FIGURES)


def row_text(row):
    """The row's numbers, parted by single blanks."""
    if not row:
        return NO_NUMBERS
    return " ".join([str(number) for number in row])


def read_row(text):
    """The row that the text is of; refused where it is of none."""
    if text == NO_NUMBERS:
        return []
    words = text.split(" ")
    for word in words:
        if not is_number(word):
            raise NoText("a row's text is numbers parted by single blanks, or none")
    return [int(word) for word in words]
