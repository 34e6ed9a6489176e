"""The house: which of its pages are free, which are in runs, what has been written into them, and its counts."""

from pagehouse.rows import joined, page_count, row_with, touch_any, without


class House:
    def __init__(self):
        self.set_up(0, 0, 0)

    def set_up(self, size, chunk, spare):
        self.size = size
        self.chunk = chunk
        self.spare = spare
        self.free_rows = []
        # A run's first page to (how many pages, mark).
        self.runs = {}
        # A page's number to its bytes; a page that isn't here has only bytes that are 0.
        self.written = {}
        self.clear_counts()

    def clear_counts(self):
        self.asked = 0
        self.refused = 0
        self.came = 0
        self.given_back = 0
        self.most_at_once = 0

    def taken_rows(self):
        return [(first, run[0]) for first, run in self.runs.items()]

    def own_rows(self):
        return joined(self.free_rows + self.taken_rows())

    def can_come(self, first, pages):
        if first < 0 or first + pages > self.size:
            return False
        return not touch_any(self.own_rows(), first, pages)

    def are_free(self, first, pages):
        return row_with(self.free_rows, first, pages) is not None

    def make_free(self, first, pages):
        self.free_rows = joined(self.free_rows + [(first, pages)])

    def make_taken(self, first, pages):
        self.free_rows = without(self.free_rows, first, pages)
        for page in list(self.written):
            if first <= page < first + pages:
                self.written.pop(page)

    def ask_more(self, pages, given):
        first = given.more(pages)
        self.asked = self.asked + 1
        if not self.can_come(first, pages):
            self.refused = self.refused + 1
            return False
        self.make_free(first, pages)
        self.came = self.came + pages
        self.most_at_once = max(self.most_at_once, page_count(self.own_rows()))
        return True

    def trim(self, most, given):
        free = page_count(self.free_rows)
        excess = free - most
        while excess > 0:
            highest = self.free_rows[-1]
            pages = min(excess, highest[1])
            first = highest[0] + highest[1] - pages
            self.free_rows = without(self.free_rows, first, pages)
            given.less(first, pages)
            self.given_back = self.given_back + pages
            excess = excess - pages
        return free - page_count(self.free_rows)
