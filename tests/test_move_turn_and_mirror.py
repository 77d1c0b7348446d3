"""Promises 9 to 11: move, turn and mirror."""

import unittest

from tests.asking import BEYOND, LONG, MOST_X, REFUSED, WRONG_STRETCHES, ask, ask_all, both, tell_all, woven
from tests.plain import plain_answers

TEXT = "0110100111"


def every_stretch(length):
    return [(start, n) for start in range(length + 1) for n in range(length - start + 1)]


class StretchTest(unittest.TestCase):
    def check_refused(self, wrong):
        for call in wrong:
            self.assertEqual(both("010110", call, other="101001"), ([REFUSED], "010110", "101001"), call)

    def check_plain(self, calls):
        told = ask_all(*calls)
        plain = plain_answers(calls)
        for at, call in enumerate(calls):
            self.assertTrue(told[at] == plain[at], call)


class MoveTest(StretchTest):
    def test_every_two_stretches_of_a_row(self):
        for start, n in every_stretch(len(TEXT)):
            for to in range(len(TEXT) - n + 1):
                after = TEXT[:to] + TEXT[start:start + n] + TEXT[to + n:]
                self.assertEqual(both(TEXT, ("move", 0, 0, start, to, n)), ([0], after, "0" * 10), (start, to, n))

    def test_overlaps_either_way(self):
        self.assertEqual(both("1101000", ("move", 0, 0, 0, 2, 5)), ([0], "1111010", "0000000"))
        self.assertEqual(both("1101001", ("move", 0, 0, 2, 0, 5)), ([0], "0100101", "0000000"))
        self.assertEqual(both("1101001", ("move", 0, 0, 1, 1, 5)), ([0], "1101001", "0000000"))

    def test_row_1_is_another_row(self):
        self.assertEqual(both("110010", ("move", 0, 1, 0, 3, 3), other="011000"), ([0], "110010", "011011"))

    def test_on_both_keepers(self):
        self.assertEqual(both("100101", ("move", 1, 0, 3, 0, 3), other="011010", o=1), ([0], "101101", "011010"))
        self.assertEqual(
            ask(("begin", 0, 6), ("begin", 1, 6), ("one", 0, 0, 0, 1), ("one", 1, 0, 1, 1), ("move", 1, 0, 0, 3, 3),
                ("count", 0, 0, 3, 3), ("find", 1, 0, 2, 1, 0), ("move", 0, 0, 0, 5, 1), ("one", 0, 0, 5, 0),
                ("one", 1, 0, 5, 0)),
            [0, 0, 0, 0, 0, 0, 4, 0, 1, 0])

    def test_a_stretch_of_no_places(self):
        for start in (0, 2, 6):
            for to in (0, 3, 6):
                self.assertEqual(both("010110", ("move", 0, 0, start, to, 0)), ([0], "010110", "000000"))
        for length in (1, 256, LONG):
            self.assertEqual(ask(("begin", 0, length), ("one", 0, 0, 0, 1), ("move", 0, 0, length, 0, 0),
                                 ("move", 0, 0, 0, length, 0), ("move", 0, 0, length, length, 0),
                                 ("count", 0, 0, 0, length)), [0, 0, 0, 0, 0, 1])

    def test_a_row_of_one_place(self):
        self.assertEqual(both("1", ("move", 0, 0, 0, 0, 1), ("move", 0, 0, 0, 1, 1), ("move", 0, 0, 1, 0, 1)),
                         ([0, REFUSED, REFUSED], "1", "0"))

    def test_over_many_words(self):
        ways = ((0, 1, 699), (1, 0, 699), (0, 256, 444), (256, 0, 444), (3, 300, 400), (300, 3, 400), (255, 256, 2),
                (100, 140, 520), (140, 100, 520), (0, 0, 700), (443, 187, 257))
        for start, to, n in ways:
            self.check_plain(woven(700, n) + [("move", 0, 0, start, to, n)] + tell_all(0))

    def test_the_longest_rows(self):
        for start, to, n in ((0, 1, LONG - 1), (1, 0, LONG - 1), (0, LONG // 2, LONG // 2), (7, 300, LONG - 300),
                             (300, 7, LONG - 300), (0, 0, LONG)):
            self.check_plain(woven(LONG, n) + [("move", 0, 1, start, to, n)] + tell_all(0))

    def test_wrong_numbers_are_refused(self):
        wrong = [("move", 0, row, 1, 2, 3) for row in BEYOND + (2,)]
        wrong += [("move", 0, 0, start, 0, n) for start, n in WRONG_STRETCHES]
        wrong += [("move", 0, 0, 0, to, n) for to, n in WRONG_STRETCHES]
        wrong += [("move", 0, 0, 2, 3, 4), ("move", 0, 0, 3, 2, 4), ("move", 0, 1, 7, 0, 0), ("move", 0, 1, 0, 7, 0)]
        self.check_refused(wrong)


class TurnTest(StretchTest):
    def test_every_stretch_of_a_row(self):
        for start, n in every_stretch(len(TEXT)):
            for k in (0, 1, 2, 3, n // 2, n, n + 1, 2 * n, 2 * n + 3, 2 ** 32 + 1, 2 ** 63, MOST_X - 1, MOST_X):
                held = TEXT[start:start + n]
                over = k % n if n > 0 else 0
                after = TEXT[:start] + held[n - over:] + held[:n - over] + TEXT[start + n:]
                self.assertEqual(both(TEXT, ("turn", 0, 0, start, n, k)), ([0], after, "0" * 10), (start, n, k))

    def test_it_goes_towards_the_end(self):
        self.assertEqual(both("01000000", ("turn", 0, 0, 0, 8, 2)), ([0], "00010000", "00000000"))
        self.assertEqual(both("00000110", ("turn", 0, 0, 1, 7, 2)), ([0], "01000001", "00000000"))

    def test_by_the_largest_k(self):
        # 2^64 - 1 leaves 1 when divided by 7, and 0 when divided by 5.
        self.assertEqual(both("0110001", ("turn", 0, 0, 0, 7, MOST_X)), ([0], "1011000", "0000000"))
        self.assertEqual(both("0110001", ("turn", 0, 0, 0, 5, MOST_X)), ([0], "0110001", "0000000"))

    def test_row_1_is_another_row(self):
        self.assertEqual(both("110010", ("turn", 0, 1, 1, 4, 1), other="011001"), ([0], "110010", "001101"))

    def test_on_both_keepers(self):
        self.assertEqual(both("100101", ("turn", 1, 0, 0, 6, 1), other="011010", o=1), ([0], "110010", "011010"))
        self.assertEqual(
            ask(("begin", 0, 6), ("begin", 1, 9), ("one", 0, 0, 0, 1), ("one", 1, 0, 1, 1), ("turn", 1, 0, 0, 9, 7),
                ("find", 0, 0, 0, 1, 0), ("find", 1, 0, 0, 1, 0)),
            [0, 0, 0, 0, 0, 0, 8])

    def test_a_stretch_of_no_places(self):
        for length in (1, 6, 256, LONG):
            for k in (0, 1, 5, MOST_X):
                self.assertEqual(ask(("begin", 0, length), ("one", 0, 0, 0, 1), ("turn", 0, 0, 0, 0, k),
                                     ("turn", 0, 0, length, 0, k), ("one", 0, 0, 0, 0), ("count", 0, 0, 0, length)),
                                 [0, 0, 0, 0, 1, 1])

    def test_a_row_of_one_place(self):
        for k in (0, 1, 2, MOST_X):
            self.assertEqual(both("1", ("turn", 0, 0, 0, 1, k)), ([0], "1", "0"))

    def test_over_many_words(self):
        for start, n in ((0, 700), (1, 699), (250, 300), (256, 256), (255, 257), (3, 513)):
            for k in (1, 63, 255, 256, 257, n - 1, n, n + 1, MOST_X):
                self.check_plain(woven(700, n) + [("turn", 0, 0, start, n, k)] + tell_all(0))

    def test_the_longest_rows(self):
        for start, n, k in ((0, LONG, 0), (0, LONG, 1), (0, LONG, LONG), (0, LONG, MOST_X), (1, LONG - 1, 30001)):
            self.check_plain(woven(LONG, n) + [("turn", 0, 1, start, n, k)] + tell_all(0))

    def test_wrong_numbers_are_refused(self):
        wrong = [("turn", 0, row, 1, 3, 1) for row in BEYOND + (2,)]
        wrong += [("turn", 0, 0, start, n, k) for start, n in WRONG_STRETCHES for k in (0, 1, MOST_X)]
        self.check_refused(wrong)


class MirrorTest(StretchTest):
    def test_every_stretch_of_a_row(self):
        for start, n in every_stretch(len(TEXT)):
            after = TEXT[:start] + TEXT[start:start + n][::-1] + TEXT[start + n:]
            self.assertEqual(both(TEXT, ("mirror", 0, 0, start, n)), ([0], after, "0" * 10), (start, n))

    def test_an_odd_and_an_even_number_of_places(self):
        self.assertEqual(both("0110100", ("mirror", 0, 0, 1, 5)), ([0], "0010110", "0000000"))
        self.assertEqual(both("0110100", ("mirror", 0, 0, 1, 6)), ([0], "0001011", "0000000"))

    def test_row_1_is_another_row(self):
        self.assertEqual(both("110010", ("mirror", 0, 1, 0, 4), other="011100"), ([0], "110010", "111000"))

    def test_on_both_keepers(self):
        self.assertEqual(both("100100", ("mirror", 1, 0, 0, 6), other="011010", o=1), ([0], "001001", "011010"))
        self.assertEqual(
            ask(("begin", 0, 6), ("begin", 1, 6), ("one", 0, 0, 0, 1), ("one", 1, 0, 1, 1), ("mirror", 1, 0, 0, 6),
                ("find", 0, 0, 0, 1, 0), ("find", 1, 0, 0, 1, 0)),
            [0, 0, 0, 0, 0, 0, 4])

    def test_a_stretch_of_no_places(self):
        for length in (1, 6, 256, LONG):
            self.assertEqual(ask(("begin", 0, length), ("one", 0, 0, 0, 1), ("mirror", 0, 0, 0, 0),
                                 ("mirror", 0, 0, length, 0), ("one", 0, 0, 0, 0), ("count", 0, 0, 0, length)),
                             [0, 0, 0, 0, 1, 1])

    def test_a_row_of_one_place(self):
        self.assertEqual(both("1", ("mirror", 0, 0, 0, 1), ("mirror", 0, 0, 0, 2)), ([0, REFUSED], "1", "0"))

    def test_over_many_words(self):
        for start, n in ((0, 700), (1, 699), (250, 12), (250, 13), (256, 256), (255, 257), (3, 513), (188, 512)):
            self.check_plain(woven(700, n) + [("mirror", 0, 0, start, n)] + tell_all(0))

    def test_the_longest_rows(self):
        for start, n in ((0, LONG), (1, LONG - 1), (0, LONG - 1), (100, LONG - 300)):
            self.check_plain(woven(LONG, n) + [("mirror", 0, 1, start, n)] + tell_all(0))

    def test_wrong_numbers_are_refused(self):
        wrong = [("mirror", 0, row, 1, 3) for row in BEYOND + (2,)]
        wrong += [("mirror", 0, 0, start, n) for start, n in WRONG_STRETCHES]
        self.check_refused(wrong)
