"""Promises 15 and 16: longest and tell."""

import re
import unittest

from tests.asking import BEYOND, LONG, REFUSED, ask_all, both_all


class LongestTest(unittest.TestCase):
    def test_every_short_row(self):
        for length in range(1, 9):
            for number in range(2 ** length):
                text = f"{number:0{length}b}"
                told = []
                for what in "01":
                    runs = re.findall(what + "+", text)
                    told.append([max(map(len, runs), default=0), len(runs)])
                self.assertEqual(both_all(text, ("longest", 0, 0, 0), ("longest", 0, 0, 1)),
                                 (told, text, "0" * length))

    def test_stretches_at_both_ends(self):
        for text, free, taken in (("11011101111", [1, 2], [4, 3]), ("11110110111", [1, 2], [4, 3]),
                                  ("00100010000", [4, 3], [1, 2]), ("00001000100", [4, 3], [1, 2]),
                                  ("01111111110", [1, 2], [9, 1]), ("10000000001", [9, 1], [1, 2])):
            self.assertEqual(both_all(text, ("longest", 0, 0, 0), ("longest", 0, 0, 1))[0], [free, taken], text)

    def test_all_free_and_all_taken(self):
        for length in (1, 2, 255, 256, 257, 511, 512, 513, 1000, 65535, LONG):
            self.assertEqual(
                ask_all(("begin", 0, length), ("longest", 0, 0, 0), ("longest", 0, 0, 1),
                        ("range", 0, 0, 0, length, 1), ("longest", 0, 0, 0), ("longest", 0, 0, 1))[1:],
                [[length, 1], [0, 0], [0], [0, 0], [length, 1]])

    def test_both_rows_and_both_keepers(self):
        self.assertEqual(both_all("0110", ("longest", 0, 0, 1), ("longest", 0, 1, 1), other="1010")[0],
                         [[2, 1], [1, 2]])
        self.assertEqual(
            ask_all(("begin", 0, 9), ("begin", 1, 9), ("range", 0, 1, 2, 3, 1), ("one", 1, 0, 4, 1),
                    ("longest", 0, 0, 1), ("longest", 0, 1, 1), ("longest", 1, 0, 0), ("longest", 1, 1, 0))[4:],
            [[0, 0], [3, 1], [4, 2], [9, 1]])

    def test_one_stretch_of_any_length_about_the_words_ends(self):
        for start in (0, 1, 100, 255, 256, 257):
            for n in (1, 2, 155, 156, 157, 255, 256, 257, 300, 512, 600):
                around = [part for part in (start, 900 - start - n) if part > 0]
                calls = [("begin", 0, 900), ("range", 0, 0, start, n, 1), ("longest", 0, 0, 1), ("longest", 0, 0, 0),
                         ("range", 0, 0, 0, 900, 3), ("longest", 0, 0, 0), ("longest", 0, 0, 1)]
                self.assertEqual(ask_all(*calls)[2:],
                                 [[n, 1], [max(around), len(around)], [n], [n, 1], [max(around), len(around)]])

    def test_a_stretch_within_a_word_is_longer_than_those_at_its_ends(self):
        calls = [("begin", 0, 768), ("range", 0, 0, 250, 20, 1), ("range", 0, 0, 300, 50, 1),
                 ("range", 0, 0, 500, 30, 1)]
        self.assertEqual(ask_all(*calls, ("longest", 0, 0, 1), ("longest", 0, 0, 0))[4:], [[50, 3], [250, 4]])

    def test_as_many_stretches_as_a_row_can_have(self):
        calls = [("begin", 0, LONG), ("one", 0, 0, 0, 1)]
        done = 2
        while done < LONG:
            calls.append(("move", 0, 0, 0, done, done))
            done *= 2
        calls += [("longest", 0, 0, 0), ("longest", 0, 0, 1), ("one", 0, 0, 40001, 3), ("longest", 0, 0, 0),
                  ("longest", 0, 0, 1), ("one", 0, 0, 512, 3), ("longest", 0, 0, 0), ("longest", 0, 0, 1)]
        self.assertEqual(ask_all(*calls)[-8:], [[1, 32768], [1, 32768], [0], [1, 32767], [3, 32767], [1], [3, 32766],
                                                [3, 32766]])

    def test_wrong_numbers_are_refused(self):
        wrong = [("longest", 0, row, what) for row in BEYOND + (2,) for what in (0, 1)]
        wrong += [("longest", 0, row, what) for row in (0, 1) for what in BEYOND + (2,)]
        for call in wrong:
            self.assertEqual(both_all("01010", call, other="10101"), ([[REFUSED]], "01010", "10101"), call)


def bytes_of(text):
    """The numbers of the bytes that the text's places make, 8 each, the first place in the lowest bit."""
    return [int(text[at:at + 8][::-1], 2) for at in range(0, len(text), 8)]


class TellTest(unittest.TestCase):
    def test_a_row_as_it_stands(self):
        text = "100000000100000011"
        self.assertEqual(both_all(text, ("tell", 0, 0)), ([[3, 1, 2, 3]], text, "0" * 18))

    def test_every_length_up_to_some_words(self):
        for length in list(range(1, 35)) + [63, 64, 65, 100, 127, 255, 256, 257, 263, 264, 265]:
            text = ("011010011101" * 23)[:length]
            told = bytes_of(text)
            self.assertEqual(len(told), (length + 7) // 8)
            self.assertEqual(both_all(text, ("tell", 0, 0)), ([[len(told)] + told], text, "0" * length))

    def test_bits_past_the_last_place_are_0(self):
        for length in (1, 2, 7, 8, 9, 15, 16, 17, 255, 256, 257, 300, 65529, 65535, LONG):
            told = bytes_of("1" * length)
            calls = [("begin", 0, length), ("range", 0, 0, 0, length, 3), ("tell", 0, 0), ("tell", 0, 1),
                     ("mirror", 0, 0, 0, length), ("turn", 0, 0, 0, length, 3), ("move", 0, 0, 0, length // 2, 1),
                     ("join", 0, 13, 0, 0, length), ("tell", 0, 0), ("range", 0, 0, 0, length, 2), ("tell", 0, 0)]
            parts = ask_all(*calls)
            self.assertEqual([parts[at] for at in (2, 3, 8, 10)],
                             [[len(told)] + told, [len(told)] + [0] * len(told), [len(told)] + told,
                              [len(told)] + [0] * len(told)])

    def test_both_rows_and_both_keepers(self):
        self.assertEqual(both_all("0110", ("tell", 0, 0), ("tell", 0, 1), other="1010")[0], [[1, 6], [1, 5]])
        self.assertEqual(
            ask_all(("begin", 0, 4), ("begin", 1, 12), ("one", 0, 1, 3, 1), ("one", 1, 0, 10, 1), ("tell", 0, 0),
                    ("tell", 0, 1), ("tell", 1, 0), ("tell", 1, 1))[4:],
            [[1, 0], [1, 8], [2, 0, 4], [2, 0, 0]])

    def test_each_place_of_a_long_row_has_its_bit(self):
        for place in (0, 7, 8, 255, 256, 32767, 32768, 65535):
            told = ask_all(("begin", 0, LONG), ("one", 0, 1, place, 1), ("tell", 0, 1))[2]
            wanted = [0] * 8192
            wanted[place // 8] = 1 << place % 8
            self.assertTrue(told == [8192] + wanted, place)

    def test_wrong_rows_are_refused(self):
        for row in BEYOND + (2,):
            self.assertEqual(both_all("01010", ("tell", 0, row), other="10101"), ([[REFUSED]], "01010", "10101"))
