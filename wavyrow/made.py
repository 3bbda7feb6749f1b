"""The fewest numbers to change so that all places of a row are wavy."""

from wavyrow.errors import NoText
from wavyrow.waves import refuse_step

WORDS = ("up", "down")


def mirrored(row, word):
    """The row with each number that the first step of that word makes a low one turned about 0.

    Two neighbours of it then go the right way by the step just where they are
    the step or more together. Mirrored again it is the row.
    """
    low = WORDS.index(word)
    return [-number if place % 2 == low else number for place, number in enumerate(row)]


def staying(heights, step):
    """The most places of a mirrored row that can stay, the first such as lists.

    What is changed may be made as high as need be, so only two neighbours that
    both stay can be wrong. Of such two the earlier one stays: it stands in the
    way of the later one alone, and that one may stand in the way of one more.
    """
    stay = []
    for place, height in enumerate(heights):
        if stay[-1:] != [place - 1] or heights[place - 1] + height >= step:
            stay.append(place)
    return stay


def fewest_beginning(row, step, word):
    """(many, places): how many must be changed where the first step goes that way, and which stay."""
    if word not in WORDS:
        raise NoText("the word is up or down")
    refuse_step(step)
    stay = staying(mirrored(row, word), step)
    return (len(row) - len(stay), stay)


def fewest_changed(row, step):
    """(many, places): how many must be changed so that the row is wholly wavy, and which stay."""
    return min([fewest_beginning(row, step, word) for word in WORDS])


def made_wavy(row, step):
    """A wholly wavy row in which just the places of fewest_changed have the numbers that they had."""
    word = min(WORDS, key=lambda each: fewest_beginning(row, step, each))
    many, stay = fewest_beginning(row, step, word)
    heights = mirrored(row, word)
    # Only behind one that stays is one changed, so both neighbours of it stay;
    # as it was too low beside the one ahead of it, it gets another number.
    made = [
        height if place in stay else step - min(heights[place - 1:place + 2:2]) for place, height in enumerate(heights)
    ]
    return mirrored(made, word)
