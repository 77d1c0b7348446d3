"""The keepers of rows, and the calls that are made of them."""

from placerows.moves import join_places, mirror_places, move_places, turn_places
from placerows.rooms import take_room
from placerows.rows import Row
from placerows.stretches import how_many_stretches, longest_length

REFUSED = -2
MOST_PLACES = 65536
# How many places get and put go over at most.
MOST_BITS = 64
HIGHEST_RULE = 15


class Keeper:
    """Two rows of the same length; none till it is begun."""

    def __init__(self):
        self.rows = []

    def row_numbered(self, number):
        """The row, or None where there is none of this number."""
        if number >= 0 and number < len(self.rows):
            return self.rows[number]
        return None


def answer_begin(keeper, numbers):
    n = numbers[0]
    if n < 1 or n > MOST_PLACES:
        return [REFUSED]
    keeper.rows = [Row(n), Row(n)]
    return [0]


def answer_one(keeper, numbers):
    row = keeper.row_numbered(numbers[0])
    place = numbers[1]
    how = numbers[2]
    if row is None or not row.has_place(place) or how not in (0, 1, 2, 3):
        return [REFUSED]
    held = row.held_at(place)
    row.change(place, 1, how)
    return [held]


def answer_range(keeper, numbers):
    row = keeper.row_numbered(numbers[0])
    start = numbers[1]
    n = numbers[2]
    how = numbers[3]
    if row is None or not row.has_stretch(start, n) or how not in (1, 2, 3):
        return [REFUSED]
    taken = row.taken_in(start, n)
    row.change(start, n, how)
    return [taken]


def answer_count(keeper, numbers):
    row = keeper.row_numbered(numbers[0])
    start = numbers[1]
    n = numbers[2]
    if row is None or not row.has_stretch(start, n):
        return [REFUSED]
    return [row.taken_in(start, n)]


def answer_find(keeper, numbers):
    row = keeper.row_numbered(numbers[0])
    start = numbers[1]
    what = numbers[2]
    back = numbers[3]
    # A start at the rows' length is allowed here, and a stretch of 0 places may begin there.
    if row is None or not row.has_stretch(start, 0) or what not in (0, 1) or back not in (0, 1):
        return [REFUSED]
    if back == 1:
        return [row.last_below(start, what)]
    return [row.first_from(start, what)]


def answer_nth(keeper, numbers):
    row = keeper.row_numbered(numbers[0])
    what = numbers[1]
    k = numbers[2]
    if row is None or what not in (0, 1) or k < 0:
        return [REFUSED]
    return [row.nth_holding(what, k)]


def answer_room(keeper, numbers):
    row = keeper.row_numbered(numbers[0])
    n = numbers[1]
    way = numbers[2]
    if row is None or n < 1 or way not in (0, 1, 2):
        return [REFUSED]
    return [take_room(row, n, way)]


def answer_free(keeper, numbers):
    row = keeper.row_numbered(numbers[0])
    start = numbers[1]
    if row is None or not row.has_place(start):
        return [REFUSED]
    return [row.let_go_from(start)]


def answer_move(keeper, numbers):
    row = keeper.row_numbered(numbers[0])
    start = numbers[1]
    to = numbers[2]
    n = numbers[3]
    if row is None or not row.has_stretch(start, n) or not row.has_stretch(to, n):
        return [REFUSED]
    move_places(row, start, to, n)
    return [0]


def answer_turn(keeper, numbers):
    row = keeper.row_numbered(numbers[0])
    start = numbers[1]
    n = numbers[2]
    k = numbers[3]
    if row is None or not row.has_stretch(start, n):
        return [REFUSED]
    turn_places(row, start, n, k)
    return [0]


def answer_mirror(keeper, numbers):
    row = keeper.row_numbered(numbers[0])
    start = numbers[1]
    n = numbers[2]
    if row is None or not row.has_stretch(start, n):
        return [REFUSED]
    mirror_places(row, start, n)
    return [0]


def answer_join(keeper, numbers):
    row = keeper.row_numbered(0)
    other = keeper.row_numbered(1)
    rule = numbers[0]
    start = numbers[1]
    at = numbers[2]
    n = numbers[3]
    if row is None or rule < 0 or rule > HIGHEST_RULE:
        return [REFUSED]
    if not row.has_stretch(start, n) or not other.has_stretch(at, n):
        return [REFUSED]
    join_places(row, other, rule, start, at, n)
    return [row.taken_in(start, n)]


def answer_get(keeper, numbers):
    row = keeper.row_numbered(numbers[0])
    start = numbers[1]
    n = numbers[2]
    if row is None or not row.has_stretch(start, n) or n > MOST_BITS:
        return [REFUSED]
    return [0, row.bits_of(start, n)]


def answer_put(keeper, numbers):
    row = keeper.row_numbered(numbers[0])
    start = numbers[1]
    n = numbers[2]
    x = numbers[3]
    if row is None or not row.has_stretch(start, n) or n > MOST_BITS:
        return [REFUSED]
    held = row.bits_of(start, n)
    row.put_bits(start, n, x)
    return [0, held]


def answer_longest(keeper, numbers):
    row = keeper.row_numbered(numbers[0])
    what = numbers[1]
    if row is None or what not in (0, 1):
        return [REFUSED]
    return [longest_length(row, what), how_many_stretches(row, what)]


def answer_tell(keeper, numbers):
    row = keeper.row_numbered(numbers[0])
    if row is None:
        return [REFUSED]
    told = row.byte_numbers()
    return [len(told)] + told


# Each call by its number: what answers it, and how many numbers it has behind the keeper's.
ANSWERERS = (
    answer_begin,
    answer_one,
    answer_range,
    answer_count,
    answer_find,
    answer_nth,
    answer_room,
    answer_free,
    answer_move,
    answer_turn,
    answer_mirror,
    answer_join,
    answer_get,
    answer_put,
    answer_longest,
    answer_tell,
)
SIZES = (1, 3, 4, 3, 4, 3, 3, 2, 4, 4, 3, 4, 3, 4, 2, 1)


def answers(calls):
    """What the calls answer, one behind another: for each how many numbers, then these."""
    keepers = [Keeper(), Keeper()]
    told = []
    at = 0
    while at < len(calls):
        call = calls[at]
        keeper = keepers[calls[at + 1]]
        end = at + 2 + SIZES[call]
        answerer = ANSWERERS[call]
        answer = answerer(keeper, calls[at + 2:end])
        told.append(len(answer))
        told.extend(answer)
        at = end
    return told
