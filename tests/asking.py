"""What the tests share: calls written by name, and rows written as texts of 0 and 1."""

from placerows.keepers import answers

NUMBERS = {"begin": 0, "one": 1, "range": 2, "count": 3, "find": 4, "nth": 5, "room": 6, "free": 7}
REFUSED = -2
NONE = -1
BEYOND = (-2147483648, -1, 2147483647)


def flat(calls):
    """Calls such as ("one", 0, 1, 5, 3) as the one list that answers takes."""
    numbers = []
    for call in calls:
        numbers.append(NUMBERS[call[0]])
        numbers.extend(call[1:])
    return numbers


def apart(told, how_many):
    """The answers' list cut up again, one list for each call."""
    parts = []
    at = 0
    while at < len(told):
        parts.append(told[at + 1:at + 1 + told[at]])
        at += 1 + told[at]
    if at != len(told) or len(parts) != how_many:
        raise AssertionError(f"{len(parts)} answers for {how_many} calls")
    return parts


def ask(*calls):
    """The one number that each call answers."""
    parts = apart(answers(flat(calls)), len(calls))
    for part in parts:
        if len(part) != 1:
            raise AssertionError(f"{part} is not one number")
    return [part[0] for part in parts]


def fill(text, o=0, row=0):
    """Calls that make the places of a begun keeper's free row what the text says."""
    return [("one", o, row, place, 1) for place, sign in enumerate(text) if sign == "1"]


def look(length, o=0, row=0):
    """Calls that ask what each place holds."""
    return [("one", o, row, place, 0) for place in range(length)]


def both(text, *calls, other=None):
    """Keeper 0's row 0 holds the text, row 1 the other text: what the calls answer, and both rows afterwards."""
    length = len(text)
    other = other or "0" * length
    ahead = [("begin", 0, length)] + fill(text) + fill(other, row=1)
    told = ask(*ahead, *calls, *look(length), *look(length, row=1))
    end = len(ahead) + len(calls)
    signs = "".join(str(held) for held in told[end:])
    return told[len(ahead):end], signs[:length], signs[length:]
