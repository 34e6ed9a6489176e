"""The given functions more and less, as one call sees them: their answers, and what they were asked."""

MORE = 1
LESS = 2


class Given:
    def __init__(self, replies):
        self.replies = replies
        self.asks = []

    def more(self, pages):
        # Every ask, less too, uses up one answer, so the asks so far say which answer is due.
        due = len(self.asks)
        self.asks.append((MORE, pages))
        return self.replies[due] if due < len(self.replies) else 0

    def less(self, first, pages):
        self.asks.append((LESS, first, pages))
