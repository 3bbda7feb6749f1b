"""What the document says, written out as slowly and plainly as its words."""

import itertools

STEPS = (1, 2, 3)
WORDS = ("up", "down")
# The greatest number of thirty figures.
BIG = 10 ** 30 - 1


def short_rows(most, numbers):
    """All rows of at most so many of the numbers."""
    for many in range(most + 1):
        for row in itertools.product(numbers, repeat=many):
            yield list(row)


def all_places(count):
    """All lists of places of a row of so many numbers, the shorter ones ahead, then in order."""
    for many in range(count + 1):
        for places in itertools.combinations(range(count), many):
            yield list(places)


def wavy(row, step, places):
    """Whether places (which they are) are wavy."""
    numbers = [row[place] for place in places]
    for k in range(1, len(numbers)):
        if abs(numbers[k] - numbers[k - 1]) < step:
            return False
    for k in range(1, len(numbers) - 1):
        left, middle, right = numbers[k - 1:k + 2]
        peak = middle > left and middle > right
        dip = middle < left and middle < right
        if not peak and not dip:
            return False
    return True


def first_of_longest(row, step):
    """The first of the longest wavy places, found among all lists of places."""
    told = []
    for places in all_places(len(row)):
        if len(places) > len(told) and wavy(row, step, places):
            told = places
    return told


def pairs(numbers):
    """Each number with each one behind it."""
    return itertools.combinations(numbers, 2)


def flat(numbers, step):
    return not any(abs(ahead - behind) >= step for ahead, behind in pairs(numbers))


def of_kind(numbers, step, kind):
    if kind == "up":
        return not any(ahead - behind >= step for ahead, behind in pairs(numbers))
    return not any(behind - ahead >= step for ahead, behind in pairs(numbers))


def other(kind):
    return "down" if kind == "up" else "up"


def right_paper(row, step, word, cuts):
    """Whether (word, cuts) is right; word is up or down, cuts are cuts."""
    bounds = [0] + cuts + [len(row)]
    pieces = [row[bounds[k]:bounds[k + 1]] for k in range(len(bounds) - 1)]
    if not flat(pieces[0], step):
        return False
    if len(pieces) == 1:
        return True
    kind = word
    for piece in [pieces[0] + pieces[1]] + pieces[2:]:
        if not of_kind(piece, step, kind):
            return False
        kind = other(kind)
    return True


def bound(row, cuts):
    return len(cuts) + 1 if row else 0


def due_paper(row, step):
    """The paper that point 10 tells, gone through number by number."""
    word, kind, cuts, start = "up", None, [], 0
    for place, number in enumerate(row):
        piece = row[start:place]
        lifted = any(number - ahead >= step for ahead in piece)
        lowered = any(ahead - number >= step for ahead in piece)
        if kind is None and (lifted or lowered):
            word = kind = "up" if lifted else "down"
        elif kind == "up" and lowered or kind == "down" and lifted:
            kind = other(kind)
        else:
            continue
        cuts.append(place)
        # The first two pieces are one of their kind: only the third begins anew.
        start = 0 if len(cuts) == 1 else place
    return (word, cuts)


def all_wavy(row, step):
    """All lists of wavy places, the shorter ones ahead, then in order."""
    return [places for places in all_places(len(row)) if wavy(row, step, places)]


def by_length(row, step):
    """All lists of wavy places of 0 places, of 1, and so on up to the longest, each in order."""
    told = [[]]
    for places in all_wavy(row, step):
        if len(places) == len(told):
            told.append([])
        told[len(places)].append(places)
    return told


def first_of_heaviest(row, step, weights):
    """(weight, places) of the first heaviest, found among all lists of places."""
    told = (0, [])
    for places in all_wavy(row, step):
        weight = sum(weights[place] for place in places)
        # The fewer places go first in all_wavy, then those that come first in order.
        if weight > told[0]:
            told = (weight, places)
    return told


def right_weights(row, step, weights, paper):
    """Whether the list of tuples is a right paper of weights; row and weights are of one length."""
    if len(paper) != len(row):
        return False
    for k in range(len(row)):
        up, down = paper[k]
        if up < weights[k] or down < weights[k]:
            return False
        for j in range(k):
            if row[k] >= row[j] + step and up < weights[k] + paper[j][1]:
                return False
            if row[k] <= row[j] - step and down < weights[k] + paper[j][0]:
                return False
    return True


def weights_bound(paper):
    return max([number for pair in paper for number in pair], default=0)


def turning(row, places):
    """How many turns the places have."""
    many = 0
    for k in range(1, len(places) - 1):
        left, middle, right = [row[place] for place in places[k - 1:k + 2]]
        if middle > left and middle > right or middle < left and middle < right:
            many += 1
    return many


def all_stepped(row, step):
    """(turns, places) of all stepped places, the shorter ones ahead, then in order."""
    told = []
    for places in all_places(len(row)):
        if all(abs(row[right] - row[left]) >= step for left, right in zip(places, places[1:])):
            told.append((turning(row, places), places))
    return told


def first_turning(stepped, turns):
    """The first of the longest stepped places with at most so many turns."""
    told = []
    for many, places in stepped:
        if many <= turns and len(places) > len(told):
            told = places
    return told


def wavy_about(row, step, places):
    """Whether places (which they are) are wavy round about."""
    if len(places) % 2 == 1:
        return False
    numbers = [row[place] for place in places]
    rises = [numbers[(k + 1) % len(numbers)] - numbers[k] for k in range(len(numbers))]
    if any(abs(rise) < step for rise in rises):
        return False
    return all((rises[k] > 0) != (rises[k - 1] > 0) for k in range(len(rises)))


def rounds_by_length(row, step):
    """All lists wavy round about of 0 places, of 2, of 4 and so on up to the most, each in order."""
    told = []
    for places in all_places(len(row)):
        if wavy_about(row, step, places):
            if len(places) == 2 * len(told):
                told.append([])
            told[len(places) // 2].append(places)
    return told


def wholly_wavy_rows(count, step, numbers):
    """All rows of so many of the numbers that are wholly wavy."""
    return [list(row) for row in itertools.product(numbers, repeat=count) if wavy(row, step, range(count))]


def begins(row, word):
    """Whether the row's first step goes as the word tells; of one number, or none, it does."""
    return len(row) < 2 or (row[1] > row[0]) == (word == "up")


def changed_into(row, made):
    """(many, places): how many are changed where the row is made into the other one, and which stay."""
    stay = [place for place in range(len(row)) if row[place] == made[place]]
    return (len(row) - len(stay), stay)


def may_stay(row, step, word, stay):
    """Whether all others can be changed so that the row is wholly wavy and begins as the word tells.

    Others can be made as far off as need be, so only neighbours that both stay are looked at.
    """
    for place in stay:
        if place + 1 in stay:
            rise = row[place + 1] - row[place]
            if (rise if (place % 2 == 0) == (word == "up") else -rise) < step:
                return False
    return True


def fewest_by_choice(row, step, word):
    """(many, places) of the fewest changed, found among all choices of places that stay."""
    told = (len(row), [])
    for stay in all_places(len(row)):
        # The longer ones come later, and of equally long ones the first comes first.
        if len(stay) > len(told[1]) and may_stay(row, step, word, stay):
            told = (len(row) - len(stay), stay)
    return told
