"""The longest stepped places of a row that turn at most so many times."""

from wavyrow.errors import NoNumber
from wavyrow.longest import longer_first
from wavyrow.waves import later_steps, refuse_step


def longest_behind(tails, laters):
    """The longest tail that begins at one of the rising laters, the first such as lists."""
    # Of equally long ones max takes the first, and that begins at the first place.
    return max([tails[later] for later in laters], key=len, default=[])


def one_turn_more(steps, fewer):
    """For each place the first of the longest stepped places that begin there.

    Two lists: those that go up next, and those that go down next. They turn
    once more at most than those of fewer, which are two such lists.
    """
    above, below = steps
    fewer_ups, fewer_downs = fewer
    ups = [[]] * len(above)
    downs = [[]] * len(above)
    # What may stand behind a step up to a place, or down to it: it goes on or turns there.
    risen = [[]] * len(above)
    fallen = [[]] * len(above)
    for place in reversed(range(len(above))):
        ups[place] = [place] + longest_behind(risen, above[place])
        downs[place] = [place] + longest_behind(fallen, below[place])
        risen[place] = min(ups[place], fewer_downs[place], key=longer_first)
        fallen[place] = min(downs[place], fewer_ups[place], key=longer_first)
    return ups, downs


def no_tails(row):
    """What is fewer turns than none: no places at all can be kept so."""
    return [[]] * len(row), [[]] * len(row)


def longest_tail(tails):
    """The longest of both lists of tails, the first such as lists."""
    ups, downs = tails
    return min(ups + downs, key=longer_first, default=[])


def longest_turning(row, step, turns):
    """The longest stepped places with at most so many turns, the first such as lists."""
    refuse_step(step)
    if turns < 0:
        raise NoNumber("so many turns are 0 or more")
    steps = later_steps(row, step)
    tails = no_tails(row)
    for turn in range(min(turns, len(row)) + 1):
        tails = one_turn_more(steps, tails)
    return longest_tail(tails)


def most_stepped(steps):
    """How many stepped places can be kept with any number of turns."""
    above, below = steps
    most = [0] * len(above)
    for place in reversed(range(len(above))):
        most[place] = 1 + max([most[later] for later in above[place] + below[place]], default=0)
    return max(most, default=0)


def kept_by_turns(row, step):
    """How many can be kept with at most 0 turns, 1 turn, and so on up to where more turns keep no more."""
    refuse_step(step)
    steps = later_steps(row, step)
    most = most_stepped(steps)
    tails = one_turn_more(steps, no_tails(row))
    kept = [len(longest_tail(tails))]
    while kept[-1] < most:
        tails = one_turn_more(steps, tails)
        kept.append(len(longest_tail(tails)))
    return kept


def fewest_turns(row, step, many):
    """The fewest turns with which at least so many can be kept, stepped; None where so many can't."""
    refuse_step(step)
    if many < 0:
        raise NoNumber("so many numbers are 0 or more")
    for turns, kept in enumerate(kept_by_turns(row, step)):
        if kept >= many:
            return turns
    return None
