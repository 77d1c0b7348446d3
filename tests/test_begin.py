"""Promise 1: begin."""

import unittest

from tests.asking import REFUSED, ask, both


class BeginTest(unittest.TestCase):
    def test_both_rows_have_n_places_all_free(self):
        for n in (1, 2, 255, 256, 257, 1000, 65535, 65536):
            for row in (0, 1):
                self.assertEqual(
                    ask(("begin", 0, n), ("count", 0, row, 0, n), ("nth", 0, row, 0, n - 1), ("nth", 0, row, 0, n),
                        ("one", 0, row, n - 1, 0), ("one", 0, row, n, 0), ("count", 0, row, 0, n + 1)),
                    [0, 0, n - 1, -1, 0, REFUSED, REFUSED])

    def test_other_lengths_are_refused(self):
        for n in (0, -1, 65537, 65792, -65536, 2147483647, -2147483648):
            self.assertEqual(ask(("begin", 0, n)), [REFUSED])

    def test_it_may_come_again(self):
        self.assertEqual(
            ask(("begin", 0, 10), ("range", 0, 0, 0, 10, 1), ("range", 0, 1, 2, 3, 1), ("begin", 0, 10),
                ("count", 0, 0, 0, 10), ("count", 0, 1, 0, 10), ("begin", 0, 300), ("count", 0, 0, 0, 300),
                ("one", 0, 1, 299, 1), ("begin", 0, 3), ("one", 0, 1, 2, 0), ("one", 0, 1, 3, 0)),
            [0, 0, 0, 0, 0, 0, 0, 0, 0, 0, 0, REFUSED])

    def test_refused_it_leaves_the_keeper_as_it_was(self):
        for n in (0, -5, 65537):
            self.assertEqual(both("01101", ("begin", 0, n), ("one", 0, 0, 5, 0), other="10010"),
                             ([REFUSED, REFUSED], "01101", "10010"))

    def test_after_a_refusal_it_may_begin(self):
        self.assertEqual(ask(("begin", 1, 0), ("begin", 1, 4), ("nth", 1, 0, 0, 3)), [REFUSED, 0, 3])

    def test_the_keepers_are_apart(self):
        self.assertEqual(
            ask(("begin", 0, 5), ("begin", 1, 9), ("range", 0, 0, 0, 5, 1), ("count", 1, 0, 0, 9),
                ("one", 1, 0, 8, 1), ("one", 0, 0, 8, 1), ("begin", 1, 2), ("count", 0, 0, 0, 5),
                ("count", 1, 0, 0, 2)),
            [0, 0, 0, 0, 0, REFUSED, 0, 5, 0])
