"""What the document says of answers(calls) as a whole."""

import contextlib
import io
import random
import time
import unittest

from placerows.keepers import answers
from tests.asking import LONG, MOST_X, apart, flat, tell_all, woven
from tests.plain import plain_answers

# More than the slowest list takes by far, also on a busy machine.
SECONDS = 20


def spent(calls):
    """How many seconds of work the list takes, and its answers."""
    began = time.process_time()
    told = answers(calls)
    return time.process_time() - began, told


def together(parts):
    """The answers' list as it must be where the calls answer these lists of numbers."""
    return [number for part in parts for number in [len(part)] + part]


def alone(told):
    """Numbers that are answered each alone."""
    return [[number] for number in told]


class InterfaceTest(unittest.TestCase):
    def test_a_list_as_it_stands(self):
        calls = [0, 0, 5, 1, 0, 0, 2, 1, 2, 0, 0, 1, 3, 3, 3, 0, 0, 0, 5, 4, 0, 0, 0, 1, 0, 5, 0, 0, 0, 1,
                 6, 0, 0, 1, 0, 7, 0, 0, 1, 0, 1, 65537, 0, 1, 1, 1, 1, 0, 0, 0, 4, 0, 0, 5, 1, 0]
        self.assertEqual(answers(calls), [1, 0, 1, 0, 1, 1, 1, 2, 1, 1, 1, 2, 1, 0, 1, 1, 1, -2, 1, 0, 1, 0, 1, -1])

    def test_a_list_of_the_later_calls_as_it_stands(self):
        calls = [0, 0, 10, 13, 0, 0, 1, 4, 11, 12, 0, 0, 0, 5, 8, 0, 0, 1, 3, 4, 9, 0, 0, 2, 7, MOST_X,
                 10, 0, 0, 1, 4, 14, 0, 0, 1, 15, 0, 0, 11, 0, 1, 0, 0, 10, 12, 0, 0, 0, 65, 15, 0, 2, 14, 0, 0, 2,
                 13, 0, 0, 10, 1, 0, 15, 0, 0]
        self.assertEqual(answers(calls), [1, 0, 2, 0, 0, 2, 0, 22, 1, 0, 1, 0, 1, 0, 2, 2, 3, 3, 2, 182, 0, 1, 5,
                                          1, -2, 1, -2, 1, -2, 1, -2, 3, 2, 73, 3])

    def test_one_call_alone(self):
        self.assertEqual(answers([0, 1, 7]), [1, 0])
        self.assertEqual(answers([0, 0, -7]), [1, -2])

    def test_what_is_handed_in_is_not_changed(self):
        calls = flat(many_calls(200, 300))
        before = list(calls)
        answers(calls)
        self.assertEqual(calls, before)

    def test_nothing_is_kept_from_one_time_to_the_next(self):
        calls = flat(many_calls(200, 300))
        first = answers(calls)
        answers([0, 0, 9, 2, 0, 0, 0, 9, 1, 0, 1, 9, 2, 1, 1, 0, 9, 1])
        second = answers(calls)
        self.assertEqual(first, second)
        self.assertIsNot(first, second)
        first.append(5)
        self.assertEqual(answers(calls), second)

    def test_the_answers_are_whole_numbers(self):
        told = answers(flat(many_calls(300, 300)))
        self.assertIs(type(told), list)
        self.assertEqual({type(number) for number in told}, {int})

    def test_nothing_is_printed(self):
        with contextlib.redirect_stdout(io.StringIO()) as out, contextlib.redirect_stderr(io.StringIO()) as err:
            answers(flat(many_calls(100, 300)))
        self.assertEqual((out.getvalue(), err.getvalue()), ("", ""))


def many_calls(how_many, length, seed=1):
    """Both keepers begun, then calls of every kind at places all over the rows."""
    chance = random.Random(seed)
    calls = [("begin", 0, length), ("begin", 1, length)]
    while len(calls) < how_many:
        o, row, bit = chance.randrange(2), chance.randrange(2), chance.randrange(2)
        start = chance.randrange(length)
        n = chance.randrange(length - start + 1)
        calls.append(chance.choice((
            ("one", o, row, start, chance.randrange(4)),
            ("range", o, row, start, n, 1 + chance.randrange(3)),
            ("count", o, row, start, n),
            ("find", o, row, start, bit, chance.randrange(2)),
            ("nth", o, row, bit, n),
            ("room", o, row, 1 + chance.randrange(1 + length // 20), chance.randrange(3)),
            ("free", o, row, start),
            ("move", o, row, start, chance.randrange(length - n + 1), n),
            ("turn", o, row, start, n, chance.getrandbits(64)),
            ("mirror", o, row, start, n),
            ("join", o, chance.randrange(16), start, chance.randrange(length - n + 1), n),
            ("get", o, row, start, min(n, 64)),
            ("put", o, row, start, min(n, 64), chance.getrandbits(64)),
            ("longest", o, row, bit),
            ("tell", o, row),
        )))
    return calls


class LongListTest(unittest.TestCase):
    """Lists of 600 calls on rows of 65536 places; a call has 6 numbers at most, so they have 3600 at most."""

    def check(self, calls, expected):
        seconds, told = spent(flat(calls))
        self.assertLess(seconds, SECONDS)
        parts = apart(told, len(calls))
        self.assertLess(sum(len(part) for part in parts), 1000000)
        # A list of a million numbers is not shown where it's wrong: that alone takes minutes.
        self.assertTrue(told == together(expected), [call for at, call in enumerate(calls)
                                                     if parts[at] != expected[at]][:1])

    def test_calls_of_every_kind(self):
        calls = many_calls(596, LONG) + tell_all(0, 1)
        self.check(calls, plain_answers(calls))

    def test_each_call_over_the_whole_row(self):
        for call, answer in (
            (("range", 0, 0, 0, LONG, 1), [LONG]),
            (("count", 0, 0, 0, LONG), [LONG]),
            (("find", 0, 0, 0, 0, 0), [-1]),
            (("find", 0, 0, LONG, 0, 1), [-1]),
            (("nth", 0, 0, 1, LONG - 1), [LONG - 1]),
            (("room", 0, 0, 1, 1), [-1]),
            (("room", 0, 1, LONG + 1, 0), [-1]),
            (("longest", 0, 0, 0), [0, 0]),
            (("longest", 0, 0, 1), [LONG, 1]),
        ):
            self.check([("begin", 0, LONG), ("range", 0, 0, 0, LONG, 1)] + [call] * 598, [[0], [0]] + [answer] * 598)

    def test_begin_again_and_again(self):
        self.check([("begin", 0, LONG)] * 600, alone([0] * 600))

    def test_switching_and_freeing_in_turn(self):
        self.check([("begin", 0, LONG)] + [("range", 0, 0, 0, LONG, 3), ("free", 0, 0, 0)] * 299,
                   alone([0] + [0, LONG] * 299))

    def test_rooms_among_many_stretches(self):
        for way in (0, 1, 2):
            calls = [("begin", 0, LONG)]
            calls += [("one", 0, 0, place * 211 % LONG, 1) for place in range(300)]
            calls += [("room", 0, 0, 1 + turn % 40, way) for turn in range(299)]
            self.check(calls, plain_answers(calls))

    def test_as_many_numbers_as_a_list_may_have(self):
        calls = [("begin", 0, LONG)] + [("range", 0, 0, 0, LONG, 3)] * 2666
        self.assertLessEqual(len(flat(calls)), 16000)
        self.check(calls, alone([0] + [0, LONG] * 1333))

    def test_each_later_call_over_long_rows_without_a_pattern(self):
        # What is done again and again comes back to what it was, or stays as it is after the first time.
        ahead = woven(LONG)
        again = 590 - len(ahead)
        for call, turns in ((("move", 0, 0, 0, 0, LONG), 1), (("turn", 0, 0, 1, LONG - 1, 13107), 5),
                            (("mirror", 0, 0, 1, LONG - 1), 2), (("join", 0, 6, 1, 0, LONG - 1), 2),
                            (("longest", 0, 0, 0), 1), (("longest", 0, 1, 1), 1), (("put", 0, 1, 250, 64, 99), 2),
                            (("get", 0, 1, 250, 64), 1)):
            few = ahead + [call] * (2 * turns) + tell_all(0)
            plain = plain_answers(few)
            cycle = plain[len(ahead) + turns:len(ahead) + 2 * turns]
            count = again // turns * turns
            self.check(ahead + [call] * count + tell_all(0),
                       plain[:len(ahead) + turns] + cycle * (count // turns - 1) + plain[-2:])

    def test_moves_to_and_fro(self):
        calls = woven(LONG) + [("move", 0, 0, 0, 1, LONG - 1), ("move", 0, 0, 1, 0, LONG - 1)] * 200
        first = woven(LONG) + [("move", 0, 0, 0, 1, LONG - 1), ("move", 0, 0, 1, 0, LONG - 1)]
        plain = plain_answers(first + tell_all(0))
        self.check(calls + tell_all(0), plain[:len(first)] + [[0]] * 398 + plain[-2:])

    def test_answers_of_just_under_a_million_numbers(self):
        # 121 rows of 8193 numbers, one of 8168, and 478 calls of one number: 999999 numbers in 600 calls.
        ahead = woven(LONG)[:101] + [("begin", 1, 65336), ("range", 1, 1, 5, 65331, 1), ("tell", 1, 1)]
        ahead = [call for call in ahead if call[0] != "put"]
        calls = ahead + [("tell", 0, 0)] * 121
        calls += [("mirror", 0, 0, 0, LONG)] * (600 - len(calls))
        plain = plain_answers(ahead + [("tell", 0, 0)])
        expected = plain[:-1] + [plain[-1]] * 121
        expected += [[0]] * (600 - len(expected))
        self.assertEqual((len(calls), sum(len(part) for part in expected)), (600, 999999))
        self.check(calls, expected)
