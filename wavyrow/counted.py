"""How many lists of wavy places there are, and the so-manieth of them."""

from wavyrow.errors import NoNumber
from wavyrow.waves import are_wavy, later_steps, refuse_step

MOST_TOLD = 100


def added_up(tails, laters):
    """For each place how many tails begin at its later places, all together."""
    return [sum([tails[later] for later in each]) for each in laters]


def layers_of(row, step, most):
    """For 1, 2 and so on up to most places, how many lists of wavy places begin at each place.

    Each layer is three lists: of all, of those that go up next, of those that
    go down next. A single place may go either way, and is one list all the
    same. The layers end sooner where no wavy places are so many.
    """
    above, below = later_steps(row, step)
    begun = ups = downs = [1] * len(row)
    layers = []
    while len(layers) < most and any(begun):
        layers.append((begun, ups, downs))
        ups, downs = added_up(downs, above), added_up(ups, below)
        begun = [up + down for up, down in zip(ups, downs)]
    return layers


def counts(row, step):
    """How many lists of wavy places there are of 0 places, of 1, and so on up to the longest."""
    refuse_step(step)
    return [1] + [sum(begun) for begun, ups, downs in layers_of(row, step, len(row))]


def longest_joined(tails):
    """(length, many) of the longest lists that a place ahead of the tails begins.

    Each of the tails is such a pair itself; of no places there is one, too.
    """
    known = [(0, 1)] + tails
    most = max([length for length, many in known])
    return (most + 1, sum([many for length, many in known if length == most]))


def how_many_longest(row, step):
    """How many lists of the longest wavy places there are."""
    refuse_step(step)
    above, below = later_steps(row, step)
    ups = [(0, 0)] * len(row)
    downs = [(0, 0)] * len(row)
    for place in reversed(range(len(row))):
        ups[place] = longest_joined([downs[later] for later in above[place]])
        downs[place] = longest_joined([ups[later] for later in below[place]])
    most = max([length for length, many in ups + downs], default=0)
    if most < 2:
        # A single place stands in both lists but is one; without numbers no places are one.
        return max(1, len(row))
    return sum([many for length, many in ups + downs if length == most])


def ways(row, step, layer, told, later):
    """How many lists of the layer, begun at the later place, go on from the told places."""
    begun, ups, downs = layer
    if not told:
        return begun[later]
    # What is told is wavy: only its last two places can forbid the next one.
    if not are_wavy(row, step, told[-2:] + [later]):
        return 0
    return downs[later] if row[later] > row[told[-1]] else ups[later]


def picked(row, step, layers, number):
    """The so-manieth list of as many wavy places as there are layers; there must be so many."""
    told = []
    place = 0
    for layer in reversed(layers):
        many = ways(row, step, layer, told, place)
        while many < number:
            number -= many
            place += 1
            many = ways(row, step, layer, told, place)
        told.append(place)
        place += 1
    return told


def how_many_picked(layers):
    """How many lists there are of as many wavy places as there are layers."""
    return sum(layers[-1][0]) if layers else 1


def first_longest(row, step, many):
    """The first so many of the longest wavy places in order, or all where there are no more."""
    refuse_step(step)
    if many < 0 or many > MOST_TOLD:
        raise NoNumber(f"from 0 to {MOST_TOLD} of the longest can be asked for")
    layers = layers_of(row, step, len(row))
    last = min(many, how_many_picked(layers))
    return [picked(row, step, layers, number) for number in range(1, last + 1)]


def so_manieth(row, step, places, number):
    """The so-manieth list, in order, of all wavy places of so many places; None where there is none."""
    refuse_step(step)
    if number < 1 or places < 0:
        raise NoNumber("the number is 1 or more, and so many places are 0 or more")
    layers = layers_of(row, step, places)
    if len(layers) < places or how_many_picked(layers) < number:
        return None
    return picked(row, step, layers, number)
