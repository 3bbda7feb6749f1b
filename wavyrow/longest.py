"""The longest wavy places of a row, and papers that no more can be kept."""

from wavyrow.waves import are_places, refuse_step

OTHER_KIND = {"up": "down", "down": "up"}


def tails(row, step):
    """For each place the first of the longest wavy places that begin there.

    Two lists: those that go up next, and those that go down next; a place
    that nothing can follow so stands alone.
    """
    ups = [[place] for place in range(len(row))]
    downs = [[place] for place in range(len(row))]
    for place in reversed(range(len(row))):
        for later in range(place + 1, len(row)):
            rise = row[later] - row[place]
            # Only a longer one takes over: of equally long ones the first stays.
            if rise >= step and len(downs[later]) >= len(ups[place]):
                ups[place] = [place] + downs[later]
            if -rise >= step and len(ups[later]) >= len(downs[place]):
                downs[place] = [place] + ups[later]
    return ups, downs


def longer_first(places):
    """What orders lists of places: the longer ahead, then the first as lists."""
    return (-len(places), places)


def longest(row, step):
    """The longest wavy places by the least step, the first such as lists."""
    refuse_step(step)
    ups, downs = tails(row, step)
    return min(ups + downs, key=longer_first, default=[])


def how_long(row, step):
    """How many places the longest wavy places are."""
    return len(longest(row, step))


def first_break(row, step, kind, start):
    """The first place that can't be in a piece of that kind begun at start.

    How many numbers there are, where the piece may go on to the row's end.
    """
    # The greatest number so far of an up piece, the least of a down piece:
    # what differs enough from any number of the piece does so from that one.
    edge = start
    for place in range(start, len(row)):
        gain = row[place] - row[edge]
        if kind == "down":
            gain = -gain
        if gain <= -step:
            return place
        if gain > 0:
            edge = place
    return len(row)


def are_cuts(row, cuts):
    """Whether cuts are rising places of the row from 1 on."""
    return are_places(row, cuts) and 0 not in cuts


def pieces_show(row, step, paper):
    """Whether paper is a right paper by pieces for the row and the least step."""
    refuse_step(step)
    word, cuts = paper
    if word not in OTHER_KIND or not are_cuts(row, cuts):
        return False
    # No two numbers differ by the step just where a piece is of both kinds.
    first_end = min(cuts + [len(row)])
    if first_break(row, step, OTHER_KIND[word], 0) < first_end:
        return False
    kind = word
    # The first two pieces are held against the word together: the first cut is left out.
    for start, end in zip([0] + cuts[1:], cuts[1:] + [len(row)]):
        if first_break(row, step, kind, start) < end:
            return False
        kind = OTHER_KIND[kind]
    return True


def pieces_of(row, step):
    """The right paper by pieces whose bound is how many the longest are."""
    refuse_step(step)
    fall = first_break(row, step, "up", 0)
    rise = first_break(row, step, "down", 0)
    word = "down" if fall < rise else "up"
    kind = word
    cuts = []
    cut = min(fall, rise)
    while cut < len(row):
        cuts.append(cut)
        # The number behind the first cut goes beyond all of the first piece,
        # so the second piece alone tells where the two together must end.
        cut = first_break(row, step, kind, cut)
        kind = OTHER_KIND[kind]
    return (word, cuts)
