"""Promises 5 and 6: find and nth."""

import unittest

from tests.asking import BEYOND, NONE, REFUSED, ask, both


class FindTest(unittest.TestCase):
    def test_every_start_of_a_row(self):
        text = "0011010001"
        for start in range(len(text) + 1):
            for what in (0, 1):
                told, after, other = both(text, ("find", 0, 0, start, what, 0), ("find", 0, 0, start, what, 1))
                self.assertEqual(told, [text.find(str(what), start), text.rfind(str(what), 0, start)])
                self.assertEqual((after, other), (text, "0" * 10))

    def test_both_rows_and_both_keepers(self):
        self.assertEqual(
            ask(("begin", 0, 6), ("begin", 1, 6), ("one", 0, 1, 3, 1), ("one", 1, 0, 4, 1),
                ("find", 0, 0, 0, 1, 0), ("find", 0, 1, 0, 1, 0), ("find", 1, 0, 6, 1, 1), ("find", 1, 1, 6, 1, 1)),
            [0, 0, 0, 0, NONE, 3, 4, NONE])

    def test_the_start_itself_is_sought_forward_and_not_back(self):
        self.assertEqual(both("00100", ("find", 0, 0, 2, 1, 0), ("find", 0, 0, 2, 1, 1), ("find", 0, 0, 3, 1, 1),
                              ("find", 0, 0, 3, 1, 0))[0], [2, NONE, 2, NONE])

    def test_start_at_the_rows_length(self):
        for n in (1, 5, 255, 256, 257, 512, 65536):
            self.assertEqual(
                ask(("begin", 0, n), ("find", 0, 0, n, 0, 0), ("find", 0, 0, n, 1, 0), ("find", 0, 0, n, 0, 1),
                    ("find", 0, 0, n, 1, 1), ("one", 0, 0, n - 1, 1), ("find", 0, 0, n, 1, 1),
                    ("find", 0, 0, n, 0, 1), ("find", 0, 0, n + 1, 0, 1)),
                [0, NONE, NONE, n - 1, NONE, 0, n - 1, n - 2 if n > 1 else NONE, REFUSED])

    def test_nothing_lies_below_the_first_place(self):
        self.assertEqual(both("11", ("find", 0, 0, 0, 1, 1), ("find", 0, 0, 0, 0, 1))[0], [NONE, NONE])

    def test_no_free_place_behind_the_rows_end(self):
        for n in (1, 5, 255, 256, 257, 300):
            self.assertEqual(ask(("begin", 0, n), ("range", 0, 0, 0, n, 1), ("find", 0, 0, 0, 0, 0),
                                 ("find", 0, 0, n, 0, 1), ("nth", 0, 0, 0, 0)), [0, 0, NONE, NONE, NONE])

    def test_far_off_in_a_long_row(self):
        self.assertEqual(
            ask(("begin", 0, 65536), ("one", 0, 0, 40000, 1), ("find", 0, 0, 3, 1, 0), ("find", 0, 0, 40000, 1, 0),
                ("find", 0, 0, 40001, 1, 0), ("find", 0, 0, 65536, 1, 1), ("find", 0, 0, 40001, 1, 1),
                ("find", 0, 0, 40000, 1, 1), ("range", 0, 0, 0, 65536, 3), ("find", 0, 0, 0, 0, 0),
                ("find", 0, 0, 65536, 0, 1)),
            [0, 0, 40000, 40000, NONE, 40000, 40000, NONE, 1, 40000, 40000])

    def test_wrong_numbers_are_refused(self):
        wrong = [("find", 0, row, 1, 1, 0) for row in BEYOND + (2,)]
        wrong += [("find", 0, 0, start, 0, back) for start in BEYOND + (6, 256) for back in (0, 1)]
        wrong += [("find", 0, 0, 1, what, 0) for what in BEYOND + (2,)]
        wrong += [("find", 0, 0, 1, 1, back) for back in BEYOND + (2,)]
        for call in wrong:
            self.assertEqual(both("01010", call, other="10101"), ([REFUSED], "01010", "10101"), call)


class NthTest(unittest.TestCase):
    def test_every_k_of_a_row(self):
        text = "0011010001"
        for what in (0, 1):
            places = [place for place, sign in enumerate(text) if sign == str(what)]
            calls = [("nth", 0, 0, what, k) for k in range(12)]
            self.assertEqual(both(text, *calls), (places + [NONE] * (12 - len(places)), text, "0" * 10))

    def test_both_rows_and_both_keepers(self):
        self.assertEqual(
            ask(("begin", 0, 6), ("begin", 1, 6), ("one", 0, 1, 3, 1), ("one", 1, 0, 4, 1), ("nth", 0, 0, 1, 0),
                ("nth", 0, 1, 1, 0), ("nth", 1, 0, 1, 0), ("nth", 1, 1, 1, 0), ("nth", 0, 1, 0, 3)),
            [0, 0, 0, 0, NONE, 3, 4, NONE, 4])

    def test_k_past_the_last(self):
        self.assertEqual(
            ask(("begin", 0, 1), ("nth", 0, 0, 0, 0), ("nth", 0, 0, 0, 1), ("nth", 0, 0, 1, 0),
                ("nth", 0, 0, 0, 2147483647), ("begin", 0, 65536), ("nth", 0, 0, 0, 65535), ("nth", 0, 0, 0, 65536),
                ("range", 0, 0, 0, 65536, 1), ("nth", 0, 0, 1, 65535), ("nth", 0, 0, 1, 65536)),
            [0, 0, NONE, NONE, NONE, 0, 65535, NONE, 0, 65535, NONE])

    def test_every_place_of_a_taken_and_a_free_row(self):
        calls = [("begin", 0, 290), ("range", 0, 1, 0, 290, 1)] + [("nth", 0, 0, 0, k) for k in range(290)]
        self.assertEqual(ask(*calls)[2:], list(range(290)))
        calls = calls[:2] + [("nth", 0, 1, 1, k) for k in range(290)]
        self.assertEqual(ask(*calls)[2:], list(range(290)))

    def test_wrong_numbers_are_refused(self):
        wrong = [("nth", 0, row, 1, 0) for row in BEYOND + (2,)]
        wrong += [("nth", 0, 0, what, 0) for what in BEYOND + (2,)]
        wrong += [("nth", 0, 0, what, k) for k in (-1, -2, -2147483648) for what in (0, 1)]
        for call in wrong:
            self.assertEqual(both("01010", call, other="10101"), ([REFUSED], "01010", "10101"), call)
