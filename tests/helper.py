"""Calls written as lists of numbers, answers read back, and a slow model of the house, page by page."""

from pagehouse.desk import answers

LEAST = -2147483648
GREATEST = 2147483647


def begin(size, chunk, spare, g=()):
    return [0, size, chunk, spare, len(g), *g]


def take(n, e=0, mark=0, g=()):
    return [1, n, e, mark, len(g), *g]


def give(p, g=()):
    return [2, p, len(g), *g]


def grow(p, n, g=()):
    return [3, p, n, len(g), *g]


def cut(p, k, g=()):
    return [4, p, k, len(g), *g]


def join(p, g=()):
    return [5, p, len(g), *g]


def mark(p, m, g=()):
    return [6, p, m, len(g), *g]


def line(calls):
    return [number for call in calls for number in call]


def more(n):
    return (1, n)


def less(p, n):
    return (2, p, n)


def read_answer(numbers):
    asks = []
    at = 1
    for unused in range(numbers[0]):
        width = {1: 2, 2: 3}[numbers[at]]
        asks.append(tuple(numbers[at:at + width]))
        at += width
    if len(numbers) != at + 1:
        raise AssertionError(f"one number should stand behind the asks: {numbers}")
    return numbers[at], asks


def told(*calls):
    """Of each call: (the number it is answered, the asks in order)."""
    numbers = answers(line(calls))
    result = []
    at = 0
    while at < len(numbers):
        behind = at + 1 + numbers[at]
        if behind > len(numbers):
            raise AssertionError(f"an answer is cut short: {numbers}")
        result.append(read_answer(numbers[at + 1:behind]))
        at = behind
    if len(result) != len(calls):
        raise AssertionError(f"{len(calls)} calls, {len(result)} answers")
    return result


def last(*calls):
    return told(*calls)[-1]


def probes(size):
    yield [begin(size, 1, 0)]
    for n in range(1, size + 1):
        for e in range(4):
            yield [take(n, e, 0, [-1, -1, -1])]
            yield [take(n, e)]
    for p in range(size):
        yield [take(1, 0, 0, [p])]
        yield [give(p)]
        yield [join(p)]
        for n in range(1, size + 1):
            yield [grow(p, n)]
            yield [cut(p, n)]
        for m in range(8):
            yield [mark(p, m), give(p)]
            yield [mark(p, m), join(p)]
            yield [cut(p, 1), mark(p, m), join(p)]


def seen(size, *calls):
    """All that further calls can tell of a house of so many pages, behind these calls."""
    return [(probe, told(*calls, *probe)[len(calls):]) for probe in probes(size)]


def differences(first, second):
    """What differs between two houses as they were seen, the first few alone."""
    return [pair for pair in zip(first, second) if pair[0] != pair[1]][:3]


class SlowHouse:
    """The document's words over again, told page by page: None outside, 0 free, else the run's own number."""

    def __init__(self):
        self.pages = []
        self.marks = {}
        self.used = 0

    def call(self, numbers):
        """Answers (number, asks) to one call that is written as a list of numbers."""
        width = (3, 3, 1, 2, 2, 1, 2)[numbers[0]]
        self.asks = []
        self.g = numbers[2 + width:]
        names = ("begin", "take", "give", "grow", "cut", "join", "mark")
        return getattr(self, names[numbers[0]])(*numbers[1:1 + width]), self.asks

    def ask(self, *ask):
        self.asks.append(ask)
        return self.g[len(self.asks) - 1] if len(self.asks) <= len(self.g) else 0

    def state(self, page):
        return self.pages[page] if 0 <= page < len(self.pages) else None

    def run_at(self, p):
        """The pages of the run that begins at p; none if none does."""
        run = self.state(p)
        if not run or self.state(p - 1) == run:
            return []
        return [page for page in range(len(self.pages)) if self.pages[page] == run]

    def new_run(self, pages, value):
        self.used += 1
        self.marks[self.used] = value
        for page in pages:
            self.pages[page] = self.used

    def trimmed(self, k):
        while self.pages.count(0) > k:
            end = max(page for page, state in enumerate(self.pages) if state == 0) + 1
            first = end
            while self.state(first - 1) == 0 and self.pages.count(0) - (end - first) > k:
                first -= 1
            self.ask(2, first, end - first)
            self.pages[first:end] = [None] * (end - first)

    def begin(self, size, chunk, spare):
        if not (1 <= size <= 16384 and 1 <= chunk <= 1024 and 0 <= spare <= 16384):
            return -8
        for page in range(len(self.pages)):
            if self.pages[page] is not None and self.state(page - 1) is None:
                end = page
                while self.state(end) is not None:
                    end += 1
                self.ask(2, page, end - page)
        self.pages = [None] * size
        self.chunk = chunk
        self.spare = spare
        return 0

    def place(self, n, a):
        for first in range(0, len(self.pages) - n + 1, a):
            if self.pages[first:first + n] == [0] * n:
                return first
        return -7

    def asked(self, n):
        first = self.ask(1, n)
        if first < 0 or first + n > len(self.pages) or self.pages[first:first + n] != [None] * n:
            return False
        self.pages[first:first + n] = [0] * n
        return True

    def take(self, n, e, value):
        if not (1 <= n <= 16384 and 0 <= e <= 10 and 0 <= value <= 7):
            return -8
        a = 2 ** e
        m = n + a - 1
        first = self.place(n, a)
        if first < 0:
            came = self.asked(max(self.chunk, m))
            if not came and self.chunk > m:
                came = self.asked(m)
            if not came and e != 0:
                came = self.asked(n)
            first = self.place(n, a) if came else -7
        if first >= 0:
            self.new_run(range(first, first + n), value)
        return first

    def give(self, p):
        run = self.run_at(p)
        if not run:
            return -5
        if self.marks[self.pages[p]] >= 4:
            return -6
        for page in run:
            self.pages[page] = 0
        self.trimmed(self.spare)
        return len(run)

    def grow(self, p, n):
        if not 1 <= n <= 16384:
            return -8
        run = self.run_at(p)
        if not run:
            return -5
        if self.marks[self.pages[p]] >= 4:
            return -6
        lacking = range(p + len(run), p + n)
        if any(self.state(page) != 0 for page in lacking):
            return -7
        for page in lacking:
            self.pages[page] = self.pages[p]
        for page in run[n:]:
            self.pages[page] = 0
        if n < len(run):
            self.trimmed(self.spare)
        return n

    def cut(self, p, k):
        run = self.run_at(p)
        if not 1 <= k <= len(run) - 1:
            return -5
        self.new_run(run[k:], self.marks[self.pages[p]])
        return run[k]

    def join(self, p):
        run = self.run_at(p)
        behind = self.run_at(p + len(run))
        if not run or not behind:
            return -5
        if self.marks[self.pages[p]] != self.marks[self.pages[behind[0]]]:
            return -6
        for page in behind:
            self.pages[page] = self.pages[p]
        return len(run) + len(behind)

    def mark(self, p, m):
        if not 0 <= m <= 7:
            return -8
        if not self.run_at(p):
            return -5
        self.marks[self.pages[p]] = m
        return 0
