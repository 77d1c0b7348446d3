"""The calls once more, place by place, as the document's words say them; slow and plain."""

import itertools


class PlainKeeper:
    def __init__(self):
        self.rows = None

    def stretch_is_right(self, row, start, n):
        return row in (0, 1) and start >= 0 and n >= 0 and start + n <= len(self.rows[0])

    def begin(self, n):
        if not 1 <= n <= 65536:
            return -2
        self.rows = [[0] * n, [0] * n]
        return 0

    def one(self, row, place, how):
        if row not in (0, 1) or not 0 <= place < len(self.rows[0]) or how not in (0, 1, 2, 3):
            return -2
        held = self.rows[row][place]
        self.rows[row][place] = (held, 1, 0, 1 - held)[how]
        return held

    def range(self, row, start, n, how):
        if not self.stretch_is_right(row, start, n) or how not in (1, 2, 3):
            return -2
        return sum(self.one(row, place, how) for place in range(start, start + n))

    def count(self, row, start, n):
        if not self.stretch_is_right(row, start, n):
            return -2
        return self.rows[row][start:start + n].count(1)

    def find(self, row, start, what, back):
        if row not in (0, 1) or not 0 <= start <= len(self.rows[0]) or what not in (0, 1) or back not in (0, 1):
            return -2
        places = reversed(range(start)) if back else range(start, len(self.rows[0]))
        return next((place for place in places if self.rows[row][place] == what), -1)

    def nth(self, row, what, k):
        if row not in (0, 1) or what not in (0, 1) or k < 0:
            return -2
        places = [place for place, held in enumerate(self.rows[row]) if held == what]
        return places[k] if k < len(places) else -1

    def free_stretches(self, row):
        """(start, length) of each, as long as it is."""
        found = []
        start = 0
        for place, held in enumerate(self.rows[row] + [1]):
            if held:
                if place > start:
                    found.append((start, place - start))
                start = place + 1
        return found

    def room(self, row, n, way):
        if row not in (0, 1) or n < 1 or way not in (0, 1, 2):
            return -2
        enough = [stretch for stretch in self.free_stretches(row) if stretch[1] >= n]
        if not enough:
            return -1
        if way == 0:
            place = enough[0][0]
        elif way == 1:
            place = [s for s in enough if s[1] == min(length for _, length in enough)][0][0]
        else:
            start, length = [s for s in enough if s[1] == max(length for _, length in enough)][-1]
            place = start + length - n
        self.range(row, place, n, 1)
        return place

    def free(self, row, start):
        if row not in (0, 1) or not 0 <= start < len(self.rows[0]):
            return -2
        end = self.find(row, start, 0, 0)
        if end == -1:
            end = len(self.rows[0])
        return self.range(row, start, end - start, 2)

    def move(self, row, start, to, n):
        if not self.stretch_is_right(row, start, n) or not self.stretch_is_right(row, to, n):
            return -2
        held = list(self.rows[row])
        for i in range(n):
            self.rows[row][to + i] = held[start + i]
        return 0

    def turn(self, row, start, n, k):
        if not self.stretch_is_right(row, start, n):
            return -2
        held = list(self.rows[row])
        for i in range(n):
            self.rows[row][start + (i + k) % n] = held[start + i]
        return 0

    def mirror(self, row, start, n):
        if not self.stretch_is_right(row, start, n):
            return -2
        held = list(self.rows[row])
        for i in range(n):
            self.rows[row][start + n - 1 - i] = held[start + i]
        return 0

    def join(self, rule, start, at, n):
        if not 0 <= rule <= 15 or not self.stretch_is_right(0, start, n) or not self.stretch_is_right(1, at, n):
            return -2
        for i in range(n):
            a = self.rows[0][start + i]
            b = self.rows[1][at + i]
            self.rows[0][start + i] = rule // 2 ** (2 * a + b) % 2
        return self.count(0, start, n)

    def get(self, row, start, n):
        if not self.stretch_is_right(row, start, n) or n > 64:
            return -2
        return [0, sum(2 ** i * self.rows[row][start + i] for i in range(n))]

    def put(self, row, start, n, x):
        told = self.get(row, start, n)
        if told != -2:
            for i in range(n):
                self.rows[row][start + i] = x // 2 ** i % 2
        return told

    def longest(self, row, what):
        if row not in (0, 1) or what not in (0, 1):
            return -2
        lengths = [len(list(same)) for held, same in itertools.groupby(self.rows[row]) if held == what]
        return [max(lengths, default=0), len(lengths)]

    def tell(self, row):
        if row not in (0, 1):
            return -2
        told = [0] * -(-len(self.rows[row]) // 8)
        for place, held in enumerate(self.rows[row]):
            told[place // 8] += held * 2 ** (place % 8)
        return [len(told)] + told


def plain_answers(calls):
    """A list of numbers for each of the calls, which are written by name."""
    keepers = [PlainKeeper(), PlainKeeper()]
    told = []
    for name, o, *numbers in calls:
        answer = getattr(keepers[o], name)(*numbers)
        told.append(answer if isinstance(answer, list) else [answer])
    return told
