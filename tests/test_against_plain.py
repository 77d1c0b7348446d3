"""Lists of calls of every kind, right and wrong ones, against the same calls done place by place."""

import random
import unittest

from tests.asking import LONG, MOST_X, ask_all, fill, tell_all, woven
from tests.plain import plain_answers

EDGES = (-2147483648, -65536, -257, -2, -1, 0, 1, 2, 3, 4, 15, 16, 63, 64, 65, 254, 255, 256, 257, 65535, 65536, 65537,
         2147483647)


def any_number(chance, length):
    """Mostly a number about the row, now and then one from far off."""
    if chance.randrange(12) == 0:
        return chance.choice(EDGES)
    if chance.randrange(4) == 0:
        return chance.choice((length - 1, length, length + 1, 255, 256, 257))
    return chance.randrange(length + 1)


def small(chance, top):
    """Mostly a number below top, now and then one that isn't."""
    if chance.randrange(25) == 0:
        return chance.choice(EDGES)
    return chance.randrange(top)


def large(chance, length):
    """A number from 0 to 2^64 - 1: any one, one about the row, or an edge."""
    return chance.choice((chance.getrandbits(64), chance.randrange(2 * length + 1), 0, length, MOST_X, 2 ** 63))


def any_call(chance, length):
    o = chance.randrange(2)
    row = small(chance, 2)
    start = any_number(chance, length)
    to = any_number(chance, length)
    n = any_number(chance, length) if chance.randrange(3) == 0 else small(chance, 30)
    return chance.choice((
        ("one", o, row, start, small(chance, 4)),
        ("range", o, row, start, n, small(chance, 4)),
        ("count", o, row, start, n),
        ("find", o, row, start, small(chance, 2), small(chance, 2)),
        ("nth", o, row, small(chance, 2), any_number(chance, length)),
        ("room", o, row, small(chance, 12), small(chance, 3)),
        ("room", o, row, n, small(chance, 3)),
        ("free", o, row, start),
        ("move", o, row, start, to, n),
        ("turn", o, row, start, n, large(chance, length)),
        ("mirror", o, row, start, n),
        ("join", o, small(chance, 16), start, to, n),
        ("get", o, row, start, small(chance, 66)),
        ("put", o, row, start, small(chance, 66), large(chance, length)),
        ("longest", o, row, small(chance, 2)),
        ("tell", o, row),
    ))


class AgainstPlainTest(unittest.TestCase):
    def check(self, calls):
        self.assertLessEqual(len(calls), 600)
        told = ask_all(*calls)
        plain = plain_answers(calls)
        for at, answer in enumerate(told):
            self.assertEqual(answer, plain[at], (at, calls[at]))

    def test_calls_of_every_kind(self):
        for seed in range(300):
            chance = random.Random(seed)
            length = chance.choice((1, 2, 3, 30, 255, 256, 257, 300, 511, 512, 513, 700, 1100))
            calls = [("begin", 0, length), ("begin", 1, length)]
            calls += [any_call(chance, length) for turn in range(400)]
            calls += [("begin", 1, small(chance, 90))]
            calls += [any_call(chance, length) for turn in range(150)]
            self.check(calls + tell_all(0, 1))

    def test_calls_of_every_kind_on_rows_with_much_in_them(self):
        for seed in range(100):
            chance = random.Random(seed)
            length = chance.choice((64, 65, 200, 256, 257, 320, 500, 513, 800, 1024))
            calls = woven(length, seed, 0) + woven(length, seed + 1000, 1)
            calls += [any_call(chance, length) for turn in range(200)]
            self.check(calls + tell_all(0, 1))

    def test_stretches_over_the_longest_rows(self):
        for seed in range(3):
            chance = random.Random(seed)
            calls = woven(LONG, seed)
            for turn in range(5):
                start, to = chance.randrange(300), chance.randrange(300)
                n = LONG - 300 - chance.randrange(300)
                calls += [("move", 0, 0, start, to, n), ("turn", 0, 1, to, n, chance.getrandbits(64)),
                          ("mirror", 0, turn % 2, start, n), ("join", 0, chance.choice((6, 9)), start, to, n)]
                calls += [("longest", 0, row, what) for row in (0, 1) for what in (0, 1)]
            self.check(calls + tell_all(0))

    def test_rooms_in_crowded_rows(self):
        for seed in range(300):
            chance = random.Random(seed)
            share = chance.choice((2, 3, 4, 8, 30))
            length = chance.choice((256, 257, 300, 450, 512, 600))
            text = "".join("1" if chance.randrange(share) == 0 else "0" for place in range(length))
            calls = [("begin", 0, length)] + fill(text)[:400]
            for turn in range(60):
                calls.append(("room", 0, 0, 1 + chance.randrange(2 * share), chance.randrange(3)))
                calls.append(("free", 0, 0, chance.randrange(length)))
                calls.append(("nth", 0, 0, chance.randrange(2), chance.randrange(length)))
            self.check(calls)
