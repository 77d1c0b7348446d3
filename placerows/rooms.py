"""Rooms: so many free places side by side, sought in a row and taken."""

from placerows.rows import NOWHERE, TAKE
from placerows.words import WIDTH, highest, low_bits, lowest

# Which of the free stretches that are long enough is chosen.
FIRST = 0
FIRST_SHORTEST = 1
LAST_LONGEST = 2


def take_room(row, n, way):
    """Take n free places of the stretch that way chooses; the first of them, or NOWHERE."""
    stretches = long_stretches(row, n, way)
    if len(stretches) == 0:
        return NOWHERE
    stretch = chosen(stretches, way)
    place = stretch[0]
    if way == LAST_LONGEST:
        place = stretch[0] + stretch[1] - n
    row.change(place, n, TAKE)
    return place


def chosen(stretches, way):
    """The stretch that way chooses; the stretches are (start, length), in the row's order."""
    best = stretches[0]
    for stretch in stretches:
        if way == FIRST_SHORTEST and stretch[1] < best[1]:
            best = stretch
        if way == LAST_LONGEST and stretch[1] >= best[1]:
            best = stretch
    return best


def long_stretches(row, n, way):
    """The free stretches of n places or more that way may choose, as (start, length), in the row's order.

    Of the stretches that lie between two taken places of one word, only the word's own choice is there:
    a row can have tens of thousands of them, too many to go through one by one for each room.
    """
    stretches = []
    start = 0
    for index, word in enumerate(row.words):
        if word != 0:
            base = index * WIDTH
            stretches.append((start, base + lowest(word) - start))
            stretches.extend(inner_choice(word, base, n, way))
            start = base + highest(word) + 1
    stretches.append((start, row.length - start))
    return [stretch for stretch in stretches if stretch[1] >= n]


def inner_choice(word, base, n, way):
    """A list with the stretch that way chooses between the word's taken places, empty where none is long enough."""
    first = lowest(word)
    body = word >> first
    gaps = body ^ low_bits(highest(body) + 1)
    spots = beginnings(gaps, n)
    if spots == 0:
        return []
    run = chosen_run(spots, way)
    # A gap has n - 1 places more than it has spots where n places can begin.
    return [(base + first + run[0], run[1] + n - 1)]


def beginnings(bits, n):
    """The bits at which n set bits side by side begin."""
    reach = 1
    while reach < n and bits != 0:
        step = min(reach, n - reach)
        bits = bits & (bits >> step)
        reach += step
    return bits


def chosen_run(bits, way):
    """Of the runs of set bits the one that way chooses, as (start, length); FIRST needs no length and says 1."""
    if way == FIRST:
        return (lowest(bits), 1)
    starts = bits & ~(bits << 1)
    # spots are the bits at which length set bits side by side begin; a step no longer than length leaves no hole.
    spots = bits
    length = 1
    step = 1
    while may_grow(starts, spots & (spots >> step), way):
        spots = spots & (spots >> step)
        length += step
        step = length
    while step > 1:
        step = step // 2
        fewer = spots & (spots >> step)
        if may_grow(starts, fewer, way):
            spots = fewer
            length += step
    if way == LAST_LONGEST:
        return (highest(spots), length)
    return (lowest(starts & ~(spots & (spots >> 1))), length)


def may_grow(starts, spots, way):
    """Whether some run (LAST_LONGEST) or every run (FIRST_SHORTEST) is as long as the spots ask."""
    if way == LAST_LONGEST:
        return spots != 0
    return starts & ~spots == 0
