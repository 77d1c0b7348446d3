"""Words of 256 places: whole numbers whose lowest bit stands for a word's first place."""

WIDTH = 256
FULL = 0xffffffffffffffffffffffffffffffffffffffffffffffffffffffffffffffff

# The lower half of each group of 2, 4, 8 and 16 bits.
HALVES_OF_2 = 0x5555555555555555555555555555555555555555555555555555555555555555
HALVES_OF_4 = 0x3333333333333333333333333333333333333333333333333333333333333333
HALVES_OF_8 = 0x0f0f0f0f0f0f0f0f0f0f0f0f0f0f0f0f0f0f0f0f0f0f0f0f0f0f0f0f0f0f0f0f
HALVES_OF_16 = 0x00ff00ff00ff00ff00ff00ff00ff00ff00ff00ff00ff00ff00ff00ff00ff00ff


def low_bits(n):
    """The number whose n lowest bits are set, and no other."""
    return (1 << n) - 1


def lowest(word):
    """Which bit is the lowest that is set; the word is not 0."""
    return (word & -word).bit_length() - 1


def highest(word):
    """Which bit is the highest that is set; the word is not 0."""
    return word.bit_length() - 1


def ones(word):
    """How many bits of the word are set."""
    sums = (word & HALVES_OF_2) + ((word >> 1) & HALVES_OF_2)
    sums = (sums & HALVES_OF_4) + ((sums >> 2) & HALVES_OF_4)
    sums = (sums & HALVES_OF_8) + ((sums >> 4) & HALVES_OF_8)
    sums = (sums & HALVES_OF_16) + ((sums >> 8) & HALVES_OF_16)
    # Divided by 65535, each power of 65536 leaves 1: what is left is the sum of the groups of 16 bits.
    return sums % 65535


def nth_one(word, k):
    """Which set bit has k set bits below it; the word has more than k."""
    place = 0
    half = WIDTH // 2
    while half > 0:
        below = word & low_bits(half)
        passed = ones(below)
        if k < passed:
            word = below
        else:
            k -= passed
            word = word >> half
            place += half
        half = half // 2
    return place


def mirrored(bits, n):
    """The n lowest bits end for end; n is at most WIDTH, and no bit from n on is set."""
    half = WIDTH
    lower = FULL
    while half > 1:
        half = half // 2
        # lower was the lower half of each group of 4 times half, and becomes that of each group of 2 times half.
        lower = lower ^ ((lower << half) & FULL)
        bits = ((bits >> half) & lower) | ((bits & lower) << half)
    return bits >> (WIDTH - n)


def word_parts(start, n):
    """The stretch cut up by words: (which word, its bits that lie in the stretch), in order."""
    parts = []
    end = start + n
    while start < end:
        index = start // WIDTH
        base = index * WIDTH
        stop = min(end - base, WIDTH)
        parts.append((index, low_bits(stop) ^ low_bits(start - base)))
        start = base + stop
    return parts
