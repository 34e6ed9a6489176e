"""The house: which of its pages are free, which are in runs, and what has been written into them."""

from pagehouse.rows import hold_all, joined, page_count, touch_any, without


class House:
    def __init__(self):
        self.set_up(0, 0, 0)

    def set_up(self, size, chunk, spare):
        self.size = size
        self.chunk = chunk
        self.spare = spare
        self.free_rows = []
        # A run's first page to (how many pages, mark).
        self.runs = {}
        # A page's number to its bytes; a page that isn't here has only bytes that are 0.
        self.written = {}

    def own_rows(self):
        taken_rows = [(first, run[0]) for first, run in self.runs.items()]
        return joined(self.free_rows + taken_rows)

    def can_come(self, first, pages):
        if first < 0 or first + pages > self.size:
            return False
        return not touch_any(self.own_rows(), first, pages)

    def are_free(self, first, pages):
        return hold_all(self.free_rows, first, pages)

    def make_free(self, first, pages):
        self.free_rows = joined(self.free_rows + [(first, pages)])

    def make_taken(self, first, pages):
        self.free_rows = without(self.free_rows, first, pages)
        for page in list(self.written):
            if first <= page < first + pages:
                self.written.pop(page)

    def trim(self, most, given):
        excess = page_count(self.free_rows) - most
        while excess > 0:
            highest = self.free_rows[-1]
            pages = min(excess, highest[1])
            first = highest[0] + highest[1] - pages
            self.free_rows = without(self.free_rows, first, pages)
            given.less(first, pages)
            excess = excess - pages
