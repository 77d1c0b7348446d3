"""Promise 2: one."""

import unittest

from tests.asking import BEYOND, REFUSED, ask, both


class OneTest(unittest.TestCase):
    def test_each_how_on_a_free_and_a_taken_place(self):
        for how, after in ((0, "0010"), (1, "0110"), (2, "0010"), (3, "0110")):
            self.assertEqual(both("0010", ("one", 0, 0, 1, how)), ([0], after, "0000"))
        for how, after in ((0, "0010"), (1, "0010"), (2, "0000"), (3, "0000")):
            self.assertEqual(both("0010", ("one", 0, 0, 2, how)), ([1], after, "0000"))

    def test_row_1_is_another_row(self):
        self.assertEqual(both("1100", ("one", 0, 1, 0, 3), ("one", 0, 1, 2, 3), other="0011"),
                         ([0, 1], "1100", "1001"))

    def test_on_both_keepers(self):
        self.assertEqual(
            ask(("begin", 0, 4), ("begin", 1, 4), ("one", 1, 0, 2, 1), ("one", 0, 0, 2, 0), ("one", 1, 0, 2, 0),
                ("one", 1, 1, 2, 0)),
            [0, 0, 0, 0, 1, 0])

    def test_a_row_of_one_place(self):
        self.assertEqual(ask(("begin", 0, 1), ("one", 0, 0, 0, 3), ("one", 0, 0, 0, 3), ("one", 0, 0, 0, 0),
                             ("one", 0, 0, 1, 0)), [0, 0, 1, 0, REFUSED])

    def test_every_place_of_a_long_row_is_its_own(self):
        places = [0, 1, 29, 30, 31, 63, 64, 65, 254, 255, 256, 257, 511, 512, 32768, 65279, 65280, 65535]
        calls = [("begin", 0, 65536)]
        for place in places:
            calls += [("one", 0, 0, place, 1), ("one", 0, 0, place, 0), ("one", 0, 1, place, 0)]
        calls += [("count", 0, 0, 0, 65536)]
        calls += [("nth", 0, 0, 1, k) for k in range(len(places))]
        self.assertEqual(ask(*calls), [0] + [0, 1, 0] * len(places) + [len(places)] + places)

    def test_wrong_numbers_are_refused(self):
        wrong = [("one", 0, row, 1, 1) for row in BEYOND + (2,)]
        wrong += [("one", 0, 0, place, 1) for place in BEYOND + (5, 6, 256)]
        wrong += [("one", 0, 0, 1, how) for how in BEYOND + (4, 5)]
        for call in wrong:
            self.assertEqual(both("01010", call, other="10101"), ([REFUSED], "01010", "10101"), call)
