"""Promises 3 and 4: range and count."""

import unittest

from tests.asking import BEYOND, REFUSED, WRONG_STRETCHES, ask, both


class RangeTest(unittest.TestCase):
    def test_each_how(self):
        for how, after in ((1, "0111110"), (2, "0000000"), (3, "0101010")):
            self.assertEqual(both("0010100", ("range", 0, 0, 1, 5, how)), ([2], after, "0000000"))

    def test_row_1_is_another_row(self):
        self.assertEqual(both("111000", ("range", 0, 1, 2, 3, 3), other="001010"), ([2], "111000", "000100"))

    def test_on_both_keepers(self):
        self.assertEqual(
            ask(("begin", 0, 8), ("begin", 1, 8), ("range", 1, 0, 0, 8, 1), ("range", 0, 0, 0, 8, 3),
                ("range", 1, 0, 4, 4, 2), ("count", 0, 0, 0, 8), ("count", 1, 0, 0, 8), ("count", 1, 1, 0, 8)),
            [0, 0, 0, 0, 4, 8, 4, 0])

    def test_a_stretch_of_no_places(self):
        for start in (0, 3, 6):
            for how in (1, 2, 3):
                self.assertEqual(both("010110", ("range", 0, 0, start, 0, how)), ([0], "010110", "000000"))

    def test_a_stretch_that_ends_at_the_rows_end(self):
        self.assertEqual(both("010110", ("range", 0, 0, 3, 3, 3)), ([2], "010001", "000000"))
        self.assertEqual(both("010110", ("range", 0, 0, 0, 6, 1)), ([3], "111111", "000000"))
        self.assertEqual(both("1", ("range", 0, 0, 0, 1, 2)), ([1], "0", "0"))

    def test_stretches_over_long_rows(self):
        for start, n in ((0, 65536), (255, 2), (256, 256), (1, 65535), (0, 65535), (100, 60000), (65535, 1)):
            self.assertEqual(
                ask(("begin", 0, 65536), ("range", 0, 0, start, n, 1), ("count", 0, 0, 0, 65536),
                    ("count", 0, 0, start, n), ("find", 0, 0, 0, 1, 0), ("find", 0, 0, 65536, 1, 1),
                    ("range", 0, 0, start, n, 3), ("count", 0, 0, 0, 65536), ("range", 0, 0, 0, 65536, 3),
                    ("range", 0, 0, start, n, 2), ("count", 0, 0, 0, 65536), ("count", 0, 1, 0, 65536)),
                [0, 0, n, n, start, start + n - 1, n, 0, 0, n, 65536 - n, 0])

    def test_wrong_numbers_are_refused(self):
        wrong = [("range", 0, row, 1, 3, 3) for row in BEYOND + (2,)]
        wrong += [("range", 0, 0, start, n, 3) for start, n in WRONG_STRETCHES]
        wrong += [("range", 0, 0, 1, 3, how) for how in BEYOND + (0, 4)]
        wrong += [("range", 0, 0, 6, 0, 0)]
        for call in wrong:
            self.assertEqual(both("010110", call, other="101001"), ([REFUSED], "010110", "101001"), call)


class CountTest(unittest.TestCase):
    def test_every_stretch_of_a_row(self):
        text = "0110100111"
        for start in range(len(text) + 1):
            for n in range(len(text) - start + 1):
                self.assertEqual(both(text, ("count", 0, 0, start, n), ("count", 0, 1, start, n)),
                                 ([text[start:start + n].count("1"), 0], text, "0" * 10))

    def test_on_both_keepers(self):
        self.assertEqual(ask(("begin", 0, 3), ("begin", 1, 3), ("one", 1, 1, 2, 1), ("count", 1, 1, 0, 3),
                             ("count", 1, 0, 0, 3), ("count", 0, 1, 0, 3)), [0, 0, 0, 1, 0, 0])

    def test_every_number_of_taken_places_in_a_word(self):
        for n in range(1, 260):
            self.assertEqual(ask(("begin", 0, 300), ("range", 0, 0, 7, n, 1), ("count", 0, 0, 0, 300),
                                 ("count", 0, 0, 0, 256)), [0, 0, n, min(n, 249)])
        self.assertEqual(ask(("begin", 0, 256), ("range", 0, 0, 0, 256, 1), ("count", 0, 0, 0, 256),
                             ("count", 0, 0, 0, 255)), [0, 0, 256, 255])

    def test_wrong_numbers_are_refused(self):
        wrong = [("count", 0, row, 1, 3) for row in BEYOND + (2,)]
        wrong += [("count", 0, 0, start, n) for start, n in WRONG_STRETCHES]
        for call in wrong:
            self.assertEqual(both("010110", call, other="101001"), ([REFUSED], "010110", "101001"), call)
