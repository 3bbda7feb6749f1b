"""The heaviest wavy places of a row, and papers that none are heavier."""

from wavyrow.errors import NoWeights
from wavyrow.waves import later_steps, refuse_step


def refuse_weight(weight):
    """Refuse a weight below 0."""
    if weight < 0:
        raise NoWeights("a weight is 0 or more")


def refuse_weights(row, weights):
    """Refuse what is not one weight, 0 or more, for each number of the row."""
    if len(weights) != len(row):
        raise NoWeights("there is one weight for each number of the row")
    for weight in weights:
        refuse_weight(weight)


def heavier_first(heavy):
    """What orders (weight, places): the heavier ahead, then the fewer places, then the first as lists."""
    weight, places = heavy
    return (-weight, len(places), places)


def first_heaviest(heavies):
    """The first in order of all that are handed in and of no places, which weigh nothing."""
    return min([(0, [])] + heavies, key=heavier_first)


def heavy_tails(row, step, weights):
    """For each place (weight, places) of the first heaviest wavy places that begin there.

    Two lists: those that go up next, and those that go down next; a place
    that nothing follows so stands alone.
    """
    above, below = later_steps(row, step)
    ups = [(0, [])] * len(row)
    downs = [(0, [])] * len(row)
    for place in reversed(range(len(row))):
        weight, places = first_heaviest([downs[later] for later in above[place]])
        ups[place] = (weights[place] + weight, [place] + places)
        weight, places = first_heaviest([ups[later] for later in below[place]])
        downs[place] = (weights[place] + weight, [place] + places)
    return ups, downs


def heaviest(row, step, weights):
    """(weight, places) of the heaviest wavy places; of these the fewest, of these the first as lists."""
    refuse_step(step)
    refuse_weights(row, weights)
    ups, downs = heavy_tails(row, step, weights)
    return first_heaviest(ups + downs)


def least_pair(row, step, weights, paper, place):
    """The least (up, down) that is right for the place behind the pairs that the paper has ahead of it."""
    up = down = weights[place]
    for ahead in range(place):
        rise = row[place] - row[ahead]
        ahead_up, ahead_down = paper[ahead]
        if rise >= step:
            up = max(up, weights[place] + ahead_down)
        if -rise >= step:
            down = max(down, weights[place] + ahead_up)
    return (up, down)


def weights_show(row, step, weights, paper):
    """Whether paper is a right paper of weights for the row, the least step and the weights."""
    refuse_step(step)
    refuse_weights(row, weights)
    if len(paper) != len(row):
        return False
    for place, (up, down) in enumerate(paper):
        least_up, least_down = least_pair(row, step, weights, paper, place)
        if up < least_up or down < least_down:
            return False
    return True


def weights_paper(row, step, weights):
    """The right paper of weights of the least numbers."""
    refuse_step(step)
    refuse_weights(row, weights)
    paper = []
    for place in range(len(row)):
        # Each bound grows with the pairs ahead, so least pairs ahead leave the least one here.
        paper.append(least_pair(row, step, weights, paper, place))
    return paper
