"""Promises 7 and 8: room and free."""

import unittest

from tests.asking import BEYOND, NONE, REFUSED, ask, both


class RoomTest(unittest.TestCase):
    def check(self, text, n, way, place, after):
        self.assertEqual(both(text, ("room", 0, 0, n, way)), ([place], after, "0" * len(text)), (text, n, way))

    def test_way_0_takes_the_first_that_is_long_enough(self):
        self.check("1001000010011", 1, 0, 1, "1101000010011")
        self.check("1001000010011", 2, 0, 1, "1111000010011")
        self.check("1001000010011", 3, 0, 4, "1001111010011")
        self.check("1001000010011", 4, 0, 4, "1001111110011")

    def test_way_1_takes_the_first_of_the_shortest(self):
        self.check("1000010010011", 1, 1, 6, "1000011010011")
        self.check("1000010010011", 2, 1, 6, "1000011110011")
        self.check("1000010010011", 3, 1, 1, "1111010010011")
        self.check("1000100010011", 3, 1, 1, "1111100010011")

    def test_way_2_takes_the_end_of_the_last_of_the_longest(self):
        self.check("1000010000101", 1, 2, 9, "1000010001101")
        self.check("1000010000101", 2, 2, 8, "1000010011101")
        self.check("1000010000101", 4, 2, 6, "1000011111101")
        self.check("1000001000101", 2, 2, 4, "1000111000101")

    def test_at_the_rows_ends(self):
        self.check("001000100", 2, 0, 0, "111000100")
        self.check("001000100", 2, 1, 0, "111000100")
        self.check("000100100", 2, 1, 4, "000111100")
        self.check("0001000100", 2, 1, 8, "0001000111")
        self.check("00010010000", 2, 2, 9, "00010010011")
        self.check("00010010000", 4, 0, 7, "00010011111")
        self.check("00001000100", 2, 2, 2, "00111000100")

    def test_the_whole_row(self):
        for way in (0, 1, 2):
            self.check("00000", 5, way, 0, "11111")
            self.check("0", 1, way, 0, "1")
        self.check("00000", 2, 0, 0, "11000")
        self.check("00000", 2, 1, 0, "11000")
        self.check("00000", 2, 2, 3, "00011")

    def test_none_is_long_enough(self):
        for way in (0, 1, 2):
            for n in (3, 4, 11, 12, 2147483647):
                self.check("00100100100", n, way, NONE, "00100100100")
            self.check("111", 1, way, NONE, "111")
            self.check("1", 1, way, NONE, "1")

    def test_a_stretch_is_not_longer_than_the_row(self):
        for length in (1, 5, 255, 256, 257, 300, 65535, 65536):
            for way in (0, 1, 2):
                self.assertEqual(
                    ask(("begin", 0, length), ("room", 0, 0, length + 1, way), ("room", 0, 0, 65537, way),
                        ("count", 0, 0, 0, length), ("room", 0, 0, length, way), ("room", 0, 0, 1, way),
                        ("count", 0, 0, 0, length), ("count", 0, 1, 0, length)),
                    [0, NONE, NONE, 0, 0, NONE, length, 0])

    def test_one_after_another(self):
        self.assertEqual(
            ask(("begin", 0, 10), ("room", 0, 0, 3, 0), ("room", 0, 0, 3, 0), ("room", 0, 0, 3, 0),
                ("room", 0, 0, 3, 0), ("room", 0, 0, 1, 0), ("room", 0, 0, 1, 0)),
            [0, 0, 3, 6, NONE, 9, NONE])
        self.assertEqual(
            ask(("begin", 0, 10), ("room", 0, 0, 3, 2), ("room", 0, 0, 3, 2), ("room", 0, 0, 3, 2),
                ("room", 0, 0, 3, 2), ("room", 0, 0, 1, 2), ("room", 0, 0, 1, 2)),
            [0, 7, 4, 1, NONE, 0, NONE])

    def test_both_rows_and_both_keepers(self):
        self.assertEqual(
            ask(("begin", 0, 8), ("begin", 1, 8), ("one", 0, 1, 0, 1), ("one", 1, 0, 1, 1), ("room", 0, 0, 3, 0),
                ("room", 0, 1, 3, 0), ("room", 1, 0, 3, 0), ("room", 1, 1, 3, 0), ("count", 0, 0, 0, 8),
                ("count", 0, 1, 0, 8), ("count", 1, 0, 0, 8), ("count", 1, 1, 0, 8)),
            [0, 0, 0, 0, 0, 1, 2, 0, 3, 4, 4, 3])

    def test_stretches_over_long_rows(self):
        # Taken places 1000, 2000, 2300 and 65000 leave stretches of 1000, 999, 299, 62699 and 535 places.
        taken = [("one", 0, 1, place, 1) for place in (1000, 2000, 2300, 65000)]
        for n, places in ((1, (0, 2001, 64999)), (299, (0, 2001, 64701)), (300, (0, 65001, 64700)),
                          (536, (0, 1001, 64464)), (1000, (0, 0, 64000)), (1001, (2301, 2301, 63999)),
                          (62699, (2301, 2301, 2301)), (62700, (NONE, NONE, NONE))):
            for way in (0, 1, 2):
                told = ask(("begin", 0, 65536), *taken, ("room", 0, 1, n, way), ("count", 0, 1, 0, 65536))
                place = places[way]
                self.assertEqual(told[5:], [place, 4 if place == NONE else 4 + n], (n, way))

    def test_every_length_of_two_gaps_within_a_word_and_across_words(self):
        for base in (0, 100, 200, 250):
            for first in (1, 2, 3, 7, 8, 9, 31, 60):
                for second in (1, 2, 4, 7, 8, 15, 30, 61):
                    start = base + 1
                    last = start + first + 1
                    ahead = [("begin", 0, 600), ("range", 0, 0, 0, 600, 1), ("range", 0, 0, start, first, 2),
                             ("range", 0, 0, last, second, 2)]
                    short = start if first <= second else last
                    long = start if first > second else last
                    end = long + max(first, second)
                    self.assertEqual(ask(*ahead, ("room", 0, 0, 1, 1))[4], short)
                    self.assertEqual(ask(*ahead, ("room", 0, 0, 1, 2))[4], end - 1)
                    self.assertEqual(ask(*ahead, ("room", 0, 0, max(first, second), 2))[4], long)
                    self.assertEqual(ask(*ahead, ("room", 0, 0, second, 0))[4], start if first >= second else last)
                    self.assertEqual(ask(*ahead, ("room", 0, 0, 1 + max(first, second), 0))[4], NONE)

    def test_wrong_numbers_are_refused(self):
        wrong = [("room", 0, row, 1, 0) for row in BEYOND + (2,)]
        wrong += [("room", 0, 0, n, way) for n in (0, -1, -2147483648) for way in (0, 1, 2)]
        wrong += [("room", 0, 0, 1, way) for way in BEYOND + (3,)]
        wrong += [("room", 0, 0, 9, 3), ("room", 0, 2, 9, 0)]
        for call in wrong:
            self.assertEqual(both("01010", call, other="10101"), ([REFUSED], "01010", "10101"), call)


class FreeTest(unittest.TestCase):
    def test_every_start_of_a_row(self):
        text = "0111010011"
        for start in range(len(text)):
            end = (text + "0").index("0", start)
            after = text[:start] + "0" * (end - start) + text[end:]
            self.assertEqual(both(text, ("free", 0, 0, start), other=text), ([end - start], after, text))

    def test_at_a_free_place(self):
        self.assertEqual(both("0111", ("free", 0, 0, 0)), ([0], "0111", "0000"))

    def test_up_to_the_rows_end(self):
        for n in (1, 2, 255, 256, 257, 511, 512, 65535, 65536):
            self.assertEqual(
                ask(("begin", 0, n), ("range", 0, 0, 0, n, 1), ("range", 0, 1, 0, n, 1), ("free", 0, 0, n - 1),
                    ("count", 0, 0, 0, n), ("range", 0, 0, 0, n, 1), ("free", 0, 0, 0), ("count", 0, 0, 0, n),
                    ("free", 0, 0, 0), ("free", 0, 0, n), ("count", 0, 1, 0, n)),
                [0, 0, 0, 1, n - 1, n - 1, n, 0, 0, REFUSED, n])

    def test_both_rows_and_both_keepers(self):
        self.assertEqual(
            ask(("begin", 0, 8), ("begin", 1, 8), ("range", 0, 1, 2, 4, 1), ("range", 1, 0, 3, 2, 1),
                ("free", 0, 0, 3), ("free", 0, 1, 3), ("free", 1, 0, 3), ("free", 1, 1, 3), ("count", 0, 1, 0, 8)),
            [0, 0, 0, 0, 0, 3, 2, 0, 1])

    def test_a_room_is_given_back(self):
        self.assertEqual(ask(("begin", 0, 700), ("one", 0, 0, 650, 1), ("room", 0, 0, 600, 1), ("free", 0, 0, 0),
                             ("count", 0, 0, 0, 700)), [0, 0, 0, 600, 1])

    def test_wrong_numbers_are_refused(self):
        wrong = [("free", 0, row, 1) for row in BEYOND + (2,)]
        wrong += [("free", 0, 0, start) for start in BEYOND + (5, 6, 256)]
        for call in wrong:
            self.assertEqual(both("01010", call, other="10101"), ([REFUSED], "01010", "10101"), call)
