"""Stretches of places moved, turned, mirrored and joined, in pieces of at most one word's places."""

from placerows.words import FULL, WIDTH, mirrored


def pieces(row, start, n):
    """What the stretch holds, cut into pieces: (how far behind start it begins, how many places, their bits)."""
    found = []
    for offset in range(0, n, WIDTH):
        size = min(n - offset, WIDTH)
        found.append((offset, size, row.bits_of(start + offset, size)))
    return found


def lay(row, start, laid):
    """Put the pieces down again, the first at start."""
    for offset, size, bits in laid:
        row.put_bits(start + offset, size, bits)


def move_places(row, start, to, n):
    # All pieces are read before one is laid, so that an overlap does no harm.
    lay(row, to, pieces(row, start, n))


def turn_places(row, start, n, k):
    """Turn the stretch towards its end by k places."""
    # A stretch of 0 places has no end to go over, and nothing is divided by 0.
    over = k % max(n, 1)
    ahead = pieces(row, start, n - over)
    behind = pieces(row, start + n - over, over)
    lay(row, start + over, ahead)
    lay(row, start, behind)


def mirror_places(row, start, n):
    """Turn the stretch end for end."""
    end = start + n
    for offset, size, bits in pieces(row, start, n):
        row.put_bits(end - offset - size, size, mirrored(bits, size))


def join_places(row, other, rule, start, at, n):
    """Make the row's stretch what the rule makes of it and of the other row's stretch from at on."""
    for offset, size, bits in pieces(row, start, n):
        others = other.bits_of(at + offset, size)
        row.put_bits(start + offset, size, joined(bits, others, rule))


def joined(bits, others, rule):
    """The word each bit of which is bit 2 a + b of the rule, a being that bit in bits, b in others."""
    unset = FULL ^ bits
    result = 0
    for which, hits in enumerate((unset & ~others, unset & others, bits & ~others, bits & others)):
        if (rule >> which) & 1 == 1:
            result = result | hits
    return result
