"""One row of places, each free (0) or taken (1), kept as a list of words."""

from placerows.words import FULL, WIDTH, highest, low_bits, lowest, nth_one, ones, word_parts

# What can be done to a place; under any other number it stays as it is.
TAKE = 1
LET_GO = 2
SWITCH = 3

NOWHERE = -1


def changed(word, bits, how):
    """The word after its given bits have been taken, let go or switched, or have stayed."""
    if how == TAKE:
        return word | bits
    if how == LET_GO:
        return word & ~bits
    if how == SWITCH:
        return word ^ bits
    return word


class Row:
    """A row of places, all free at first. Bits behind its last place are never set."""

    def __init__(self, length):
        self.length = length
        self.words = [0] * ((length + WIDTH - 1) // WIDTH)

    def has_place(self, place):
        return place >= 0 and place < self.length

    def has_stretch(self, start, n):
        return start >= 0 and n >= 0 and start + n <= self.length

    def holding(self, index, what):
        """The bits of one word's places that hold what."""
        if what == 1:
            return self.words[index]
        inside = min(self.length - index * WIDTH, WIDTH)
        return self.words[index] ^ low_bits(inside)

    def held_at(self, place):
        return (self.words[place // WIDTH] >> (place % WIDTH)) & 1

    def change(self, start, n, how):
        for index, bits in word_parts(start, n):
            self.words[index] = changed(self.words[index], bits, how)

    def bits_of(self, start, n):
        """What a stretch of at most WIDTH places holds: the number whose bit i is place start + i."""
        first = start // WIDTH
        bits = 0
        for index, part in word_parts(start, n):
            bits = bits | ((self.words[index] & part) << ((index - first) * WIDTH))
        return bits >> (start % WIDTH)

    def put_bits(self, start, n, bits):
        """Make a stretch of at most WIDTH places hold the number's bits; those from n on are left out."""
        first = start // WIDTH
        moved = bits << (start % WIDTH)
        for index, part in word_parts(start, n):
            kept = self.words[index] & ~part
            self.words[index] = kept | ((moved >> ((index - first) * WIDTH)) & part)

    def byte_numbers(self):
        """The row's bytes, as whole numbers: place 8 i + j is bit j of number i."""
        numbers = []
        for word in self.words:
            numbers.extend([(word >> shift) & 255 for shift in range(0, WIDTH, 8)])
        return numbers[:(self.length + 7) // 8]

    def taken_in(self, start, n):
        """How many places of the stretch are taken."""
        return sum([ones(self.words[index] & bits) for index, bits in word_parts(start, n)])

    def first_from(self, start, what):
        """The first place from start on that holds what, or NOWHERE."""
        index = start // WIDTH
        passed = low_bits(start % WIDTH)
        while index < len(self.words):
            hits = self.holding(index, what) & ~passed
            if hits != 0:
                return index * WIDTH + lowest(hits)
            passed = 0
            index += 1
        return NOWHERE

    def last_below(self, start, what):
        """The last place below start that holds what, or NOWHERE."""
        # Going from the place before start keeps the words' list in reach where start is the row's length.
        index = (start - 1) // WIDTH
        allowed = low_bits((start - 1) % WIDTH + 1)
        while index >= 0:
            hits = self.holding(index, what) & allowed
            if hits != 0:
                return index * WIDTH + highest(hits)
            allowed = FULL
            index -= 1
        return NOWHERE

    def nth_holding(self, what, k):
        """The place that holds what and has k such places before it, or NOWHERE."""
        for index in range(len(self.words)):
            hits = self.holding(index, what)
            here = ones(hits)
            if k < here:
                return index * WIDTH + nth_one(hits, k)
            k -= here
        return NOWHERE

    def let_go_from(self, start):
        """Free the taken places from start up to the first free one; how many they were."""
        end = self.first_from(start, 0)
        if end == NOWHERE:
            end = self.length
        self.change(start, end - start, LET_GO)
        return end - start
