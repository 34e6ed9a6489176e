"""Calls written as lists of numbers, answers read back, and a slow model of the house, page by page."""

import unittest

from pagehouse.desk import answers

LEAST = -2147483648
GREATEST = 2147483647


def begin(size, chunk, spare, g=()):
    return [0, size, chunk, spare, len(g), *g]


def take(n, e=0, mark=0, g=()):
    return [1, n, e, mark, len(g), *g]


def give(p, g=()):
    return [2, p, len(g), *g]


def grow(p, n, g=()):
    return [3, p, n, len(g), *g]


def cut(p, k, g=()):
    return [4, p, k, len(g), *g]


def join(p, g=()):
    return [5, p, len(g), *g]


def mark(p, m, g=()):
    return [6, p, m, len(g), *g]


def put(at, content=(), g=()):
    return [7, at, len(content), *content, len(g), *g]


def get(at, n, g=()):
    return [8, at, n, len(g), *g]


def look(p, g=()):
    return [9, p, len(g), *g]


def runs(start, most, g=()):
    return [10, start, most, len(g), *g]


def sums(g=()):
    return [11, len(g), *g]


def trim(k, g=()):
    return [12, k, len(g), *g]


def place(page, byte=0):
    return 4096 * page + byte


def line(calls):
    return [number for call in calls for number in call]


def more(n):
    return (1, n)


def less(p, n):
    return (2, p, n)


# get, look, runs and sums: what they tell is a list, if it's no refusal; all others tell one number.
LISTS = (8, 9, 10, 11)


def read_answer(call, numbers):
    asks = []
    at = 1
    for unused in range(numbers[0]):
        width = {1: 2, 2: 3}[numbers[at]]
        asks.append(tuple(numbers[at:at + width]))
        at += width
    if call[0] in LISTS and numbers[at] >= 0:
        return numbers[at:], asks
    if len(numbers) != at + 1:
        raise AssertionError(f"one number should stand behind the asks: {numbers}")
    return numbers[at], asks


def told(*calls):
    """Of each call: (the number it is answered, or the list of numbers, and the asks in order)."""
    numbers = answers(line(calls))
    result = []
    at = 0
    for call in calls:
        behind = at + 1 + numbers[at]
        if behind > len(numbers):
            raise AssertionError(f"an answer is cut short: {numbers}")
        result.append(read_answer(call, numbers[at + 1:behind]))
        at = behind
    if at != len(numbers):
        raise AssertionError(f"more is answered than was called: {numbers}")
    return result


def last(*calls):
    return told(*calls)[-1]


def probes(size):
    yield [sums()]
    yield [runs(0, 1024)]
    yield [begin(size, 1, 0)]
    for k in range(size + 1):
        yield [trim(k)]
    for n in range(1, size + 1):
        for e in range(4):
            yield [take(n, e, 0, [-1, -1, -1])]
            yield [take(n, e)]
    for p in range(size):
        yield [look(p)]
        yield [take(1, 0, 0, [p])]
        yield [give(p)]
        yield [grow(p, 1)]
        yield [grow(p, 3)]
        yield [cut(p, 1)]
        yield [join(p)]
        yield [put(place(p), [1])]
        yield [get(place(p), 4096)]
        yield [mark(p, 0), get(place(p), 4096)]
        yield [mark(p, 0), give(p), take(1), get(place(p), 4096)]


def seen(size, *calls):
    """All that further calls can tell of a house of so many pages, behind these calls."""
    return [(probe, told(*calls, *probe)[len(calls):]) for probe in probes(size)]


def shortened(value):
    text = repr(value)
    return text if len(text) <= 1000 else text[:1000] + " .."


class Case(unittest.TestCase):
    """Tests that compare thousands of bytes: to line them up, as unittest does if they differ, would take minutes."""

    def assertEqual(self, first, second, msg=None):
        if first != second:
            self.fail(f"{shortened(first)} != {shortened(second)}: {shortened(msg)}")


def differences(first, second):
    """What differs between two houses as they were seen, the first few alone."""
    return [pair for pair in zip(first, second) if pair[0] != pair[1]][:3]


class SlowHouse:
    """The document's words over again, told page by page: None outside, 0 free, else the run's own number."""

    def __init__(self):
        self.pages = []
        self.marks = {}
        self.used = 0

    def call(self, numbers):
        """Answers one call that is written as a list of numbers, as told does."""
        names = ("begin", "take", "give", "grow", "cut", "join", "mark", "put", "get", "look", "runs", "sums", "trim")
        width = (3, 3, 1, 2, 2, 1, 2, 1, 2, 1, 2, 0, 1)[numbers[0]]
        handed = numbers[1:1 + width]
        behind = numbers[1 + width:]
        if names[numbers[0]] == "put":
            handed.append(behind[1:1 + behind[0]])
            behind = behind[1 + behind[0]:]
        self.asks = []
        self.g = behind[1:]
        return getattr(self, names[numbers[0]])(*handed), self.asks

    def ask(self, *ask):
        self.asks.append(ask)
        return self.g[len(self.asks) - 1] if len(self.asks) <= len(self.g) else 0

    def state(self, page):
        return self.pages[page] if 0 <= page < len(self.pages) else None

    def run_at(self, p):
        """The pages of the run that begins at p; none if none does."""
        run = self.state(p)
        if not run or self.state(p - 1) == run:
            return []
        return [page for page in range(len(self.pages)) if self.pages[page] == run]

    def new_run(self, pages, value):
        self.used += 1
        self.marks[self.used] = value
        for page in pages:
            self.pages[page] = self.used

    def give_up(self, pages):
        for page in pages:
            self.pages[page] = 0
            self.bytes[page] = {}
        self.trimmed(self.spare)

    def trimmed(self, k):
        before = self.given_back
        while self.pages.count(0) > k:
            end = max(page for page, state in enumerate(self.pages) if state == 0) + 1
            first = end
            while self.state(first - 1) == 0 and self.pages.count(0) - (end - first) > k:
                first -= 1
            self.ask(2, first, end - first)
            self.pages[first:end] = [None] * (end - first)
            self.given_back += end - first
        return self.given_back - before

    def begin(self, size, chunk, spare):
        if not (1 <= size <= 16384 and 1 <= chunk <= 1024 and 0 <= spare <= 16384):
            return -8
        for page in range(len(self.pages)):
            if self.pages[page] is not None and self.state(page - 1) is None:
                end = page
                while self.state(end) is not None:
                    end += 1
                self.ask(2, page, end - page)
        self.pages = [None] * size
        self.bytes = [{} for unused in range(size)]
        self.chunk = chunk
        self.spare = spare
        self.times_asked = self.times_refused = self.came = self.given_back = self.peak = 0
        return 0

    def place(self, n, a):
        for first in range(0, len(self.pages) - n + 1, a):
            if self.pages[first:first + n] == [0] * n:
                return first
        return -7

    def asked(self, n):
        first = self.ask(1, n)
        self.times_asked += 1
        if first < 0 or first + n > len(self.pages) or self.pages[first:first + n] != [None] * n:
            self.times_refused += 1
            return False
        self.pages[first:first + n] = [0] * n
        self.came += n
        self.peak = max(self.peak, self.came - self.given_back)
        return True

    def take(self, n, e, value):
        if not (1 <= n <= 16384 and 0 <= e <= 10 and 0 <= value <= 7):
            return -8
        a = 2 ** e
        m = n + a - 1
        first = self.place(n, a)
        if first < 0:
            came = self.asked(max(self.chunk, m))
            if not came and self.chunk > m:
                came = self.asked(m)
            if not came and e != 0:
                came = self.asked(n)
            first = self.place(n, a) if came else -7
        if first >= 0:
            self.new_run(range(first, first + n), value)
        return first

    def give(self, p):
        run = self.run_at(p)
        if not run:
            return -5
        if self.marks[self.pages[p]] >= 4:
            return -6
        self.give_up(run)
        return len(run)

    def grow(self, p, n):
        if not 1 <= n <= 16384:
            return -8
        run = self.run_at(p)
        if not run:
            return -5
        if self.marks[self.pages[p]] >= 4:
            return -6
        lacking = range(p + len(run), p + n)
        if any(self.state(page) != 0 for page in lacking):
            return -7
        for page in lacking:
            self.pages[page] = self.pages[p]
        if n < len(run):
            self.give_up(run[n:])
        return n

    def cut(self, p, k):
        run = self.run_at(p)
        if not 1 <= k <= len(run) - 1:
            return -5
        self.new_run(run[k:], self.marks[self.pages[p]])
        return run[k]

    def join(self, p):
        run = self.run_at(p)
        behind = self.run_at(p + len(run))
        if not run or not behind:
            return -5
        if self.marks[self.pages[p]] != self.marks[self.pages[behind[0]]]:
            return -6
        for page in behind:
            self.pages[page] = self.pages[p]
        return len(run) + len(behind)

    def mark(self, p, m):
        if not 0 <= m <= 7:
            return -8
        if not self.run_at(p):
            return -5
        self.marks[self.pages[p]] = m
        return 0

    def unreachable(self, at, n, marks):
        found = {self.state(byte // 4096) for byte in [at, *range(at, at + n)]}
        if len(found) > 1 or not found - {None, 0}:
            return -5
        return -6 if self.marks[found.pop()] in marks else 0

    def put(self, at, content):
        refusal = self.unreachable(at, len(content), (1, 2, 3, 5, 6, 7))
        if refusal == 0:
            for byte, value in enumerate(content):
                self.bytes[(at + byte) // 4096][(at + byte) % 4096] = value
        return refusal

    def get(self, at, n):
        if not 0 <= n <= 4096:
            return -8
        refusal = self.unreachable(at, n, (2, 3, 6, 7))
        if refusal < 0:
            return refusal
        return [0] + [self.bytes[byte // 4096].get(byte % 4096, 0) for byte in range(at, at + n)]

    def look(self, p):
        if not 0 <= p <= 16383:
            return -8
        state = self.state(p)
        if state is None:
            return [0, p, 0, 0]
        first = p
        while self.state(first - 1) == state:
            first -= 1
        end = p
        while self.state(end) == state:
            end += 1
        return [2 if state else 1, first, end - first, self.marks[state] if state else 0]

    def runs(self, start, most):
        if start < 0 or not 0 <= most <= 1024:
            return -8
        found = [self.look(page)[1:] for page in range(len(self.pages)) if self.run_at(page)]
        return [len(found)] + line(found[start:][:most])

    def sums(self):
        outside = self.pages.count(None)
        free = self.pages.count(0)
        return [0, len(self.pages) - outside, free, len(self.pages) - outside - free,
                self.times_asked, self.times_refused, self.came, self.given_back, self.peak]

    def trim(self, k):
        return self.trimmed(k) if 0 <= k <= 16384 else -8
