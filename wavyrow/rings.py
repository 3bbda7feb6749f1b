"""Wavy places of a ring: a row whose last number is followed by its first one."""

from wavyrow.counted import added_up
from wavyrow.errors import NoPlace
from wavyrow.longest import longer_first
from wavyrow.turns import longest_behind
from wavyrow.waves import are_places, go_by_turns, later_steps, refuse_step


def wavy_round(row, step, places):
    """Whether places are places of the ring, and wavy round about by the least step."""
    refuse_step(step)
    if not are_places(row, places):
        return False
    numbers = [row[place] for place in places]
    # With the first two once more behind the last, each of them stands once
    # amid its neighbours. An odd number of them can't turn at each.
    return go_by_turns(numbers + numbers[:2], step)


def both_ways(row, step):
    """(nexts, backs) for going up next and for going down next.

    Each is for each place the later ones that a next step leads to, and those
    that the step behind it leads to.
    """
    above, below = later_steps(row, step)
    return ((above, below), (below, above))


def longest_begun(first, nexts, backs):
    """The first of the longest lists that begin at first and are wavy round about; [] where none are.

    The last one of them leads back to the first as a next one of it would.
    """
    lasts = nexts[first]
    # For each place what can go on from it up to one of the lasts, where it is
    # reached by a next step, and where by one back; [] where nothing can.
    gone = [[]] * len(nexts)
    back = [[]] * len(nexts)
    for place in reversed(range(first + 1, len(nexts))):
        behind = longest_behind(back, backs[place])
        if behind or place in lasts:
            gone[place] = [place] + behind
        behind = longest_behind(gone, nexts[place])
        if behind:
            back[place] = [place] + behind
    behind = longest_behind(gone, lasts)
    return [first] + behind if behind else []


def longest_round(row, step):
    """The longest places that are wavy round about, the first such as lists."""
    refuse_step(step)
    lists = [
        longest_begun(first, nexts, backs) for nexts, backs in both_ways(row, step) for first in range(len(row))
    ]
    return min(lists, key=longer_first, default=[])


def counts_begun(first, nexts, backs):
    """How many lists that begin at first are wavy round about, of 2 places, of 4 and so on; noughts may follow."""
    lasts = nexts[first]
    # For each place, reached by a next step, how many lists lead from it to one of the lasts.
    gone = [1 if place in lasts else 0 for place in range(len(nexts))]
    told = []
    while any(gone):
        told.append(sum([gone[place] for place in lasts]))
        gone = added_up(added_up(gone, nexts), backs)
    return told


def counts_round(row, step):
    """How many lists of places are wavy round about, of 0 places, of 2, and so on up to the most."""
    refuse_step(step)
    told = [1] + [0] * len(row)
    for nexts, backs in both_ways(row, step):
        for first in range(len(row)):
            for half, many in enumerate(counts_begun(first, nexts, backs), start=1):
                told[half] += many
    while told[-1] == 0:
        told.pop()
    return told


def begun_at(row, place):
    """The ring begun at the place: the row from there on, and behind it what stands ahead of it."""
    if place < 0 or place >= len(row):
        raise NoPlace("a place is from 0 on and below how many numbers there are")
    return row[place:] + row[:place]
