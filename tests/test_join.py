"""Promise 12: join."""

import unittest

from tests.asking import BEYOND, LONG, REFUSED, WRONG_STRETCHES, ask, ask_all, both, tell_all, woven
from tests.plain import plain_answers

RULES = range(16)


def joined(rule, a, b):
    """Two texts of the same length joined sign by sign."""
    return "".join(str(rule >> (2 * int(x) + int(y)) & 1) for x, y in zip(a, b))


class JoinTest(unittest.TestCase):
    def check_plain(self, calls):
        self.assertTrue(ask_all(*calls) == plain_answers(calls), calls[-3])

    def test_every_rule_on_every_two_places(self):
        # The four places hold the pairs (0, 0), (0, 1), (1, 0) and (1, 1), so the rule's bits come out in order.
        for rule in RULES:
            after = f"{rule:04b}"[::-1]
            self.assertEqual(both("0011", ("join", 0, rule, 0, 0, 4), other="0101"),
                             ([after.count("1")], after, "0101"))

    def test_some_rules_by_name(self):
        for rule, after in ((8, "0001"), (14, "0111"), (6, "0110"), (10, "0101"), (12, "0011"), (4, "0010"),
                            (3, "1100"), (0, "0000"), (15, "1111")):
            self.assertEqual(both("0011", ("join", 0, rule, 0, 0, 4), other="0101")[1], after)

    def test_every_two_stretches_with_every_rule(self):
        text, other = "011010", "110100"
        for start in range(7):
            for at in range(7):
                for n in range(7 - max(start, at)):
                    for rule in RULES:
                        middle = joined(rule, text[start:start + n], other[at:at + n])
                        after = text[:start] + middle + text[start + n:]
                        self.assertEqual(both(text, ("join", 0, rule, start, at, n), other=other),
                                         ([middle.count("1")], after, other), (rule, start, at, n))

    def test_only_the_stretch_is_counted(self):
        self.assertEqual(both("110011", ("join", 0, 6, 2, 2, 2), other="111011"), ([1], "111011", "111011"))

    def test_on_both_keepers(self):
        self.assertEqual(both("1001", ("join", 1, 6, 0, 0, 4), other="0101", o=1), ([2], "1100", "0101"))
        self.assertEqual(
            ask(("begin", 0, 8), ("begin", 1, 8), ("range", 0, 1, 0, 3, 1), ("range", 1, 1, 2, 5, 1),
                ("join", 1, 14, 0, 0, 8), ("count", 0, 0, 0, 8), ("join", 0, 14, 0, 1, 7), ("count", 1, 0, 0, 8)),
            [0, 0, 0, 0, 5, 0, 2, 5])

    def test_a_stretch_of_no_places(self):
        for rule in RULES:
            for start, at in ((0, 0), (4, 0), (0, 4), (4, 4), (2, 3)):
                self.assertEqual(both("0110", ("join", 0, rule, start, at, 0), other="1010"), ([0], "0110", "1010"))
        for length in (1, 256, LONG):
            self.assertEqual(ask(("begin", 0, length), ("join", 0, 15, length, length, 0), ("count", 0, 0, 0, length)),
                             [0, 0, 0])

    def test_a_row_of_one_place(self):
        for rule in RULES:
            for a in "01":
                for b in "01":
                    after = joined(rule, a, b)
                    self.assertEqual(both(a, ("join", 0, rule, 0, 0, 1), other=b), ([int(after)], after, b))

    def test_no_place_behind_the_rows_end_is_taken(self):
        for length in (1, 7, 255, 256, 257, 300):
            self.assertEqual(
                ask(("begin", 0, length), ("join", 0, 1, 0, 0, length), ("count", 0, 0, 0, length),
                    ("nth", 0, 0, 1, length), ("find", 0, 0, 0, 0, 0)),
                [0, length, length, -1, -1])

    def test_over_many_words(self):
        for rule in RULES:
            for start, at, n in ((0, 0, 700), (1, 0, 699), (0, 1, 699), (200, 37, 500), (255, 256, 2), (5, 261, 400)):
                self.check_plain(woven(700, n) + [("join", 0, rule, start, at, n)] + tell_all(0))

    def test_the_longest_rows(self):
        for rule, start, at, n in ((6, 0, 0, LONG), (9, 1, 0, LONG - 1), (2, 0, 1, LONG - 1), (13, 300, 7, 65000)):
            self.check_plain(woven(LONG, n) + [("join", 0, rule, start, at, n)] + tell_all(0))

    def test_wrong_numbers_are_refused(self):
        wrong = [("join", 0, rule, 1, 2, 3) for rule in BEYOND + (16, 17, 31, -16)]
        wrong += [("join", 0, 16, 6, 6, 0)]
        wrong += [("join", 0, 9, start, 0, n) for start, n in WRONG_STRETCHES]
        wrong += [("join", 0, 9, 0, at, n) for at, n in WRONG_STRETCHES]
        wrong += [("join", 0, 9, 2, 3, 4), ("join", 0, 9, 3, 2, 4)]
        for call in wrong:
            self.assertEqual(both("010110", call, other="101001"), ([REFUSED], "010110", "101001"), call)
