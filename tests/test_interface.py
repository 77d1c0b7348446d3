"""What the document says of answers(calls) as a whole."""

import contextlib
import io
import random
import time
import unittest

from placerows.keepers import answers
from tests.asking import flat
from tests.plain import plain_answers

# More than the slowest list takes by far, also on a busy machine.
SECONDS = 20
LONG = 65536


def spent(calls):
    """How many seconds of work the list takes, and its answers."""
    began = time.process_time()
    told = answers(calls)
    return time.process_time() - began, told


def sparse(told):
    """The answers' list as it must be where each call answers one number."""
    return [number for answer in told for number in (1, answer)]


class InterfaceTest(unittest.TestCase):
    def test_a_list_as_it_stands(self):
        calls = [0, 0, 5, 1, 0, 0, 2, 1, 2, 0, 0, 1, 3, 3, 3, 0, 0, 0, 5, 4, 0, 0, 0, 1, 0, 5, 0, 0, 0, 1,
                 6, 0, 0, 1, 0, 7, 0, 0, 1, 0, 1, 65537, 0, 1, 1, 1, 1, 0, 0, 0, 4, 0, 0, 5, 1, 0]
        self.assertEqual(answers(calls), [1, 0, 1, 0, 1, 1, 1, 2, 1, 1, 1, 2, 1, 0, 1, 1, 1, -2, 1, 0, 1, 0, 1, -1])

    def test_one_call_alone(self):
        self.assertEqual(answers([0, 1, 7]), [1, 0])
        self.assertEqual(answers([0, 0, -7]), [1, -2])

    def test_what_is_handed_in_is_not_changed(self):
        calls = flat(many_calls(200, 300))
        before = list(calls)
        answers(calls)
        self.assertEqual(calls, before)

    def test_nothing_is_kept_from_one_time_to_the_next(self):
        calls = flat(many_calls(200, 300))
        first = answers(calls)
        answers([0, 0, 9, 2, 0, 0, 0, 9, 1, 0, 1, 9, 2, 1, 1, 0, 9, 1])
        second = answers(calls)
        self.assertEqual(first, second)
        self.assertIsNot(first, second)
        first.append(5)
        self.assertEqual(answers(calls), second)

    def test_the_answers_are_whole_numbers(self):
        told = answers(flat(many_calls(300, 300)))
        self.assertIs(type(told), list)
        self.assertEqual({type(number) for number in told}, {int})

    def test_nothing_is_printed(self):
        with contextlib.redirect_stdout(io.StringIO()) as out, contextlib.redirect_stderr(io.StringIO()) as err:
            answers(flat(many_calls(100, 300)))
        self.assertEqual((out.getvalue(), err.getvalue()), ("", ""))


def many_calls(how_many, length, seed=1):
    """Both keepers begun, then calls of every kind at places all over the rows."""
    chance = random.Random(seed)
    calls = [("begin", 0, length), ("begin", 1, length)]
    while len(calls) < how_many:
        o, row, bit = chance.randrange(2), chance.randrange(2), chance.randrange(2)
        start = chance.randrange(length)
        n = chance.randrange(length - start + 1)
        calls.append(chance.choice((
            ("one", o, row, start, chance.randrange(4)),
            ("range", o, row, start, n, 1 + chance.randrange(3)),
            ("count", o, row, start, n),
            ("find", o, row, start, bit, chance.randrange(2)),
            ("nth", o, row, bit, n),
            ("room", o, row, 1 + chance.randrange(1 + length // 20), chance.randrange(3)),
            ("free", o, row, start),
        )))
    return calls


class LongListTest(unittest.TestCase):
    """Lists of 600 calls on rows of 65536 places; a call has 6 numbers at most, so they have 3600 at most."""

    def check(self, calls, expected=None):
        seconds, told = spent(flat(calls))
        self.assertLess(seconds, SECONDS)
        self.assertEqual(len(told), 2 * len(calls))
        if expected is not None:
            self.assertEqual(told, sparse(expected))

    def test_calls_of_every_kind(self):
        calls = many_calls(600, LONG)
        self.check(calls, plain_answers(calls))

    def test_each_call_over_the_whole_row(self):
        for call, answer in (
            (("range", 0, 0, 0, LONG, 1), LONG),
            (("count", 0, 0, 0, LONG), LONG),
            (("find", 0, 0, 0, 0, 0), -1),
            (("find", 0, 0, LONG, 0, 1), -1),
            (("nth", 0, 0, 1, LONG - 1), LONG - 1),
            (("room", 0, 0, 1, 1), -1),
            (("room", 0, 1, LONG + 1, 0), -1),
        ):
            self.check([("begin", 0, LONG), ("range", 0, 0, 0, LONG, 1)] + [call] * 598, [0, 0] + [answer] * 598)

    def test_begin_again_and_again(self):
        self.check([("begin", 0, LONG)] * 600, [0] * 600)

    def test_switching_and_freeing_in_turn(self):
        self.check([("begin", 0, LONG)] + [("range", 0, 0, 0, LONG, 3), ("free", 0, 0, 0)] * 299,
                   [0] + [0, LONG] * 299)

    def test_rooms_among_many_stretches(self):
        for way in (0, 1, 2):
            calls = [("begin", 0, LONG)]
            calls += [("one", 0, 0, place * 211 % LONG, 1) for place in range(300)]
            calls += [("room", 0, 0, 1 + turn % 40, way) for turn in range(299)]
            self.check(calls, plain_answers(calls))

    def test_as_many_numbers_as_a_list_may_have(self):
        calls = [("begin", 0, LONG)] + [("range", 0, 0, 0, LONG, 3)] * 2666
        self.assertLessEqual(len(flat(calls)), 16000)
        self.check(calls, [0] + [0, LONG] * 1333)
