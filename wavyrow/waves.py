"""Wavy places of a row, and the turns of places."""

from wavyrow.errors import NoPlace, NoStep


def refuse_step(step):
    """Refuse a least step below 1."""
    if step < 1:
        raise NoStep("a least step is 1 or more")


def later_steps(row, step):
    """For each place the later ones whose numbers differ by the least step.

    Two lists: for each place those above its number, and those below it.
    """
    above = []
    below = []
    for place, number in enumerate(row):
        above.append([later for later in range(place + 1, len(row)) if row[later] - number >= step])
        below.append([later for later in range(place + 1, len(row)) if number - row[later] >= step])
    return above, below


def are_places(row, places):
    """Whether places rise, from 0 on and below how many numbers there are."""
    least = 0
    for place in places:
        if place < least or place >= len(row):
            return False
        least = place + 1
    return True


def turns_of(numbers):
    """How many of the numbers are above both neighbours, or below both."""
    many = 0
    for left, middle, right in zip(numbers, numbers[1:], numbers[2:]):
        if max(left, right) < middle or middle < min(left, right):
            many += 1
    return many


def go_by_turns(numbers, step):
    """Whether the numbers, all of them, go up and down by turns by the least step."""
    for left, right in zip(numbers, numbers[1:]):
        if abs(right - left) < step:
            return False
    # Those amid the numbers are all but two, and each of them has to turn.
    return turns_of(numbers) == max(0, len(numbers) - 2)


def are_wavy(row, step, places):
    """Whether places are places of the row, and wavy by the least step."""
    refuse_step(step)
    return are_places(row, places) and go_by_turns([row[place] for place in places], step)


def how_many_turns(row, places):
    """How many turns the places have; refused where they are no places."""
    if not are_places(row, places):
        raise NoPlace("places rise, from 0 on and below how many numbers there are")
    return turns_of([row[place] for place in places])
