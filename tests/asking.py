"""What the tests share: calls written by name, and rows written as texts of 0 and 1."""

import random

from placerows.keepers import answers

NUMBERS = {"begin": 0, "one": 1, "range": 2, "count": 3, "find": 4, "nth": 5, "room": 6, "free": 7, "move": 8,
           "turn": 9, "mirror": 10, "join": 11, "get": 12, "put": 13, "longest": 14, "tell": 15}
REFUSED = -2
NONE = -1
BEYOND = (-2147483648, -1, 2147483647)
LONG = 65536
MOST_X = 2 ** 64 - 1

# Stretches that a row of 6 places doesn't have.
WRONG_STRETCHES = [(start, 1) for start in BEYOND + (6, 7)]
WRONG_STRETCHES += [(1, n) for n in BEYOND + (6,)]
WRONG_STRETCHES += [(7, 0), (-1, 0), (0, 7), (-1, 2), (6, 1), (2147483647, 2147483647), (4, -1)]


def flat(calls):
    """Calls such as ("one", 0, 1, 5, 3) as the one list that answers takes."""
    numbers = []
    for call in calls:
        numbers.append(NUMBERS[call[0]])
        numbers.extend(call[1:])
    return numbers


def apart(told, how_many):
    """The answers' list cut up again, one list for each call."""
    parts = []
    at = 0
    while at < len(told):
        parts.append(told[at + 1:at + 1 + told[at]])
        at += 1 + told[at]
    if at != len(told) or len(parts) != how_many:
        raise AssertionError(f"{len(parts)} answers for {how_many} calls")
    return parts


def ask_all(*calls):
    """What each call answers, as a list of numbers."""
    return apart(answers(flat(calls)), len(calls))


def alone(parts):
    """The numbers that are answered one by one, where no call answers more than one."""
    for part in parts:
        if len(part) != 1:
            raise AssertionError(f"{part} is not one number")
    return [part[0] for part in parts]


def ask(*calls):
    """The one number that each call answers."""
    return alone(ask_all(*calls))


def fill(text, o=0, row=0):
    """Calls that make the places of a begun keeper's free row what the text says."""
    return [("one", o, row, place, 1) for place, sign in enumerate(text) if sign == "1"]


def look(length, o=0, row=0):
    """Calls that ask what each place holds."""
    return [("one", o, row, place, 0) for place in range(length)]


def both_all(text, *calls, other=None, o=0):
    """Keeper o's row 0 holds the text, row 1 the other text: each call's list of numbers, and both rows afterwards."""
    length = len(text)
    other = other or "0" * length
    ahead = [("begin", o, length)] + fill(text, o) + fill(other, o, row=1)
    parts = ask_all(*ahead, *calls, *look(length, o), *look(length, o, row=1))
    end = len(ahead) + len(calls)
    signs = "".join(str(held) for held in alone(parts[end:]))
    return parts[len(ahead):end], signs[:length], signs[length:]


def both(text, *calls, other=None, o=0):
    """The same, where each call answers one number."""
    parts, after, after_other = both_all(text, *calls, other=other, o=o)
    return alone(parts), after, after_other


def woven(length, seed=0, o=0):
    """Calls that begin a keeper and give both its rows a content without a pattern."""
    chance = random.Random(seed)
    calls = [("begin", o, length)]
    for turn in range(40):
        for row in (0, 1):
            start = chance.randrange(length)
            calls.append(("range", o, row, start, chance.randrange(length - start + 1), 3))
            n = chance.randrange(min(64, length - start) + 1)
            calls.append(("put", o, row, start, n, chance.getrandbits(64)))
    return calls


def tell_all(*keepers):
    """Calls that tell both rows of each of the keepers."""
    return [("tell", o, row) for o in keepers for row in (0, 1)]
