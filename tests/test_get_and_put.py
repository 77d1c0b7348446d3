"""Promises 13 and 14: get and put."""

import random
import unittest

from tests.asking import BEYOND, LONG, MOST_X, REFUSED, WRONG_STRETCHES, ask_all, both_all, fill


def number_of(text):
    """The number whose bit i is the text's sign i."""
    return int(text[::-1] or "0", 2)


def signs_of(x, n):
    """The text whose sign i is bit i of x, of n signs."""
    return "".join(str(x >> i & 1) for i in range(n))


def wild_text(length, seed=5):
    chance = random.Random(seed)
    return "".join(chance.choice("01") for place in range(length))


class GetTest(unittest.TestCase):
    def test_every_stretch_of_a_row(self):
        text = wild_text(70)
        for start in range(71):
            calls = [("get", 0, 0, start, n) for n in range(min(64, 70 - start) + 1)]
            told = [[0, number_of(text[start:start + n])] for n in range(len(calls))]
            self.assertEqual(both_all(text, *calls), (told, text, "0" * 70))

    def test_the_first_place_is_the_lowest_bit(self):
        self.assertEqual(both_all("0100110", ("get", 0, 0, 0, 7), ("get", 0, 0, 1, 4))[0], [[0, 50], [0, 9]])

    def test_bits_from_n_on_are_0(self):
        self.assertEqual(both_all("1" * 70, ("get", 0, 0, 0, 1), ("get", 0, 0, 0, 63), ("get", 0, 0, 0, 64))[0],
                         [[0, 1], [0, 2 ** 63 - 1], [0, MOST_X]])

    def test_both_rows_and_both_keepers(self):
        self.assertEqual(both_all("0110", ("get", 0, 0, 0, 4), ("get", 0, 1, 0, 4), other="1010")[0],
                         [[0, 6], [0, 5]])
        self.assertEqual(
            ask_all(("begin", 0, 4), ("begin", 1, 4), ("one", 0, 0, 2, 1), ("one", 1, 1, 3, 1), ("get", 0, 0, 0, 4),
                    ("get", 0, 1, 0, 4), ("get", 1, 0, 0, 4), ("get", 1, 1, 0, 4))[4:],
            [[0, 4], [0, 0], [0, 0], [0, 8]])

    def test_no_places(self):
        for length in (1, 64, 256, LONG):
            self.assertEqual(ask_all(("begin", 0, length), ("range", 0, 0, 0, length, 1), ("get", 0, 0, 0, 0),
                                     ("get", 0, 0, length, 0), ("count", 0, 0, 0, length))[2:],
                             [[0, 0], [0, 0], [length]])

    def test_a_row_of_one_place(self):
        self.assertEqual(both_all("1", ("get", 0, 0, 0, 1), ("get", 0, 0, 0, 2), ("get", 0, 1, 0, 1)),
                         ([[0, 1], [REFUSED], [0, 0]], "1", "0"))

    def test_on_both_sides_of_a_word(self):
        text = wild_text(330)
        for n in (1, 2, 63, 64):
            starts = range(256 - n - 3, 263)
            calls = [("begin", 0, 330)] + fill(text) + [("get", 0, 0, start, n) for start in starts]
            self.assertEqual(ask_all(*calls)[-len(starts):],
                             [[0, number_of(text[start:start + n])] for start in starts])

    def test_the_end_of_the_longest_rows(self):
        self.assertEqual(
            ask_all(("begin", 0, LONG), ("one", 0, 1, LONG - 1, 1), ("one", 0, 1, LONG - 64, 1),
                    ("get", 0, 1, LONG - 64, 64), ("get", 0, 1, LONG - 1, 1), ("get", 0, 1, LONG - 63, 64))[3:],
            [[0, 2 ** 63 + 1], [0, 1], [REFUSED]])

    def test_wrong_numbers_are_refused(self):
        wrong = [("get", 0, row, 1, 3) for row in BEYOND + (2,)]
        wrong += [("get", 0, 0, start, n) for start, n in WRONG_STRETCHES]
        for call in wrong:
            self.assertEqual(both_all("010110", call, other="101001"), ([[REFUSED]], "010110", "101001"), call)

    def test_more_than_64_places_are_refused(self):
        text = wild_text(150)
        for n in (65, 66, 128, 150):
            self.assertEqual(both_all(text, ("get", 0, 0, 0, n)), ([[REFUSED]], text, "0" * 150))


class PutTest(unittest.TestCase):
    def check(self, text, start, n, x):
        after = text[:start] + signs_of(x, n) + text[start + n:]
        self.assertEqual(both_all(text, ("put", 0, 0, start, n, x), other=text),
                         ([[0, number_of(text[start:start + n])]], after, text), (start, n, x))

    def test_every_stretch_of_a_row(self):
        for start in range(9):
            for n in range(9 - start):
                for x in (0, 1, 45, 178, 255):
                    self.check("01101001", start, n, x)

    def test_the_first_place_is_the_lowest_bit(self):
        self.assertEqual(both_all("0110100", ("put", 0, 0, 1, 5, 6)), ([[0, 11]], "0011000", "0000000"))

    def test_bits_of_x_from_n_on_are_left_out(self):
        for n in (0, 1, 3, 8):
            for x in (MOST_X, MOST_X - 1, 2 ** 63, 2 ** n, 2 ** 64 - 2 ** n):
                self.check("010010100110", 2, n, x)

    def test_up_to_64_places(self):
        text = wild_text(70)
        for start in (0, 1, 5, 6):
            for n in (62, 63, 64):
                for x in (0, 1, 2 ** 63, MOST_X, 0x0123456789abcdef, 0xfedcba9876543210):
                    self.check(text, start, n, x)

    def test_both_rows_and_both_keepers(self):
        self.assertEqual(both_all("0110", ("put", 0, 1, 0, 4, 3), other="1010"), ([[0, 5]], "0110", "1100"))
        self.assertEqual(both_all("0110", ("put", 1, 0, 1, 3, 4), other="1010", o=1), ([[0, 3]], "0001", "1010"))
        self.assertEqual(
            ask_all(("begin", 0, 4), ("begin", 1, 4), ("put", 0, 0, 0, 4, 5), ("put", 1, 0, 0, 4, 6),
                    ("get", 0, 0, 0, 4), ("get", 1, 0, 0, 4), ("get", 0, 1, 0, 4), ("get", 1, 1, 0, 4))[2:],
            [[0, 0], [0, 0], [0, 5], [0, 6], [0, 0], [0, 0]])

    def test_no_places(self):
        for length in (1, 64, 256, LONG):
            self.assertEqual(ask_all(("begin", 0, length), ("put", 0, 0, 0, 0, MOST_X), ("put", 0, 0, length, 0, 1),
                                     ("count", 0, 0, 0, length))[1:], [[0, 0], [0, 0], [0]])

    def test_a_row_of_one_place(self):
        self.assertEqual(both_all("0", ("put", 0, 0, 0, 1, MOST_X), ("put", 0, 0, 0, 1, 1), ("put", 0, 0, 0, 2, 0)),
                         ([[0, 0], [0, 1], [REFUSED]], "1", "0"))

    def test_on_both_sides_of_a_word(self):
        text = wild_text(330)
        for start in (191, 192, 193, 230, 255, 256):
            for n in (1, 2, 63, 64):
                self.check(text, start, n, 0xd1b54a32d192ed03)

    def test_no_place_behind_the_rows_end_is_taken(self):
        for length in (64, 65, 255, 256, 257):
            self.assertEqual(
                ask_all(("begin", 0, length), ("put", 0, 0, length - 3, 3, MOST_X), ("count", 0, 0, 0, length),
                        ("nth", 0, 0, 1, 3), ("longest", 0, 0, 1))[1:],
                [[0, 0], [3], [-1], [3, 1]])

    def test_the_end_of_the_longest_rows(self):
        x = 0x8123456789abcdef
        self.assertEqual(
            ask_all(("begin", 0, LONG), ("put", 0, 1, LONG - 64, 64, x), ("put", 0, 1, LONG - 64, 64, 1),
                    ("find", 0, 1, 0, 1, 0), ("count", 0, 1, 0, LONG), ("put", 0, 1, LONG - 63, 64, x))[1:],
            [[0, 0], [0, x], [LONG - 64], [1], [REFUSED]])

    def test_wrong_numbers_are_refused(self):
        wrong = [("put", 0, row, 1, 3, 7) for row in BEYOND + (2,)]
        wrong += [("put", 0, 0, start, n, x) for start, n in WRONG_STRETCHES for x in (0, MOST_X)]
        for call in wrong:
            self.assertEqual(both_all("010110", call, other="101001"), ([[REFUSED]], "010110", "101001"), call)

    def test_more_than_64_places_are_refused(self):
        text = wild_text(150)
        for n in (65, 66, 128, 150):
            self.assertEqual(both_all(text, ("put", 0, 0, 0, n, 0)), ([[REFUSED]], text, "0" * 150))
