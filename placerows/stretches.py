"""Stretches that hold the same at all their places, as long as they are: sought, chosen, measured and counted."""

from placerows.words import WIDTH, highest, low_bits, lowest, ones

# Which of the stretches that are long enough is chosen.
FIRST = 0
FIRST_SHORTEST = 1
LAST_LONGEST = 2


def longest_length(row, what):
    """How many places the longest stretch has that holds what; 0 where none does."""
    stretches = long_stretches(row, what, 1, LAST_LONGEST)
    return max([stretch[1] for stretch in stretches], default=0)


def how_many_stretches(row, what):
    """How many stretches hold what, of any length."""
    total = 0
    before = 0
    for index in range(len(row.words)):
        hits = row.holding(index, what)
        # A stretch that comes over from the word before has been counted there.
        total += ones(hits & ~((hits << 1) | before))
        before = hits >> (WIDTH - 1)
    return total


def chosen(stretches, way):
    """The stretch that way chooses; the stretches are (start, length), in the row's order."""
    best = stretches[0]
    for stretch in stretches:
        if way == FIRST_SHORTEST and stretch[1] < best[1]:
            best = stretch
        if way == LAST_LONGEST and stretch[1] >= best[1]:
            best = stretch
    return best


def long_stretches(row, what, n, way):
    """The stretches of n places or more that hold what and that way may choose, as (start, length), in order.

    Of the stretches that lie between two walls (places that don't hold what) of one word, only the word's own
    choice is there: a row can have tens of thousands of them, too many to go through one by one for each call.
    """
    stretches = []
    start = 0
    for index in range(len(row.words)):
        walls = row.holding(index, 1 - what)
        if walls != 0:
            base = index * WIDTH
            stretches.append((start, base + lowest(walls) - start))
            stretches.extend(inner_choice(walls, base, n, way))
            start = base + highest(walls) + 1
    stretches.append((start, row.length - start))
    return [stretch for stretch in stretches if stretch[1] >= n]


def inner_choice(walls, base, n, way):
    """A list with the stretch that way chooses between the word's walls, empty where none is long enough."""
    first = lowest(walls)
    body = walls >> first
    gaps = body ^ low_bits(highest(body) + 1)
    spots = beginnings(gaps, n)
    if spots == 0:
        return []
    run = chosen_run(spots, way)
    # A gap has n - 1 places more than it has spots where n places can begin.
    return [(base + first + run[0], run[1] + n - 1)]


def beginnings(bits, n):
    """The bits at which n set bits side by side begin."""
    reach = 1
    while reach < n and bits != 0:
        step = min(reach, n - reach)
        bits = bits & (bits >> step)
        reach += step
    return bits


def chosen_run(bits, way):
    """Of the runs of set bits the one that way chooses, as (start, length); FIRST needs no length and says 1."""
    if way == FIRST:
        return (lowest(bits), 1)
    starts = bits & ~(bits << 1)
    # spots are the bits at which length set bits side by side begin; a step no longer than length leaves no hole.
    spots = bits
    length = 1
    step = 1
    while may_grow(starts, spots & (spots >> step), way):
        spots = spots & (spots >> step)
        length += step
        step = length
    while step > 1:
        step = step // 2
        fewer = spots & (spots >> step)
        if may_grow(starts, fewer, way):
            spots = fewer
            length += step
    if way == LAST_LONGEST:
        return (highest(spots), length)
    return (lowest(starts & ~(spots & (spots >> 1))), length)


def may_grow(starts, spots, way):
    """Whether some run (LAST_LONGEST) or every run (FIRST_SHORTEST) is as long as the spots ask."""
    if way == LAST_LONGEST:
        return spots != 0
    return starts & ~spots == 0
