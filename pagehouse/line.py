"""A line of calls, read number by number from its beginning; the list itself is left as it is."""


class Line:
    def __init__(self, calls):
        self.calls = calls
        self.at = 0

    def at_end(self):
        return self.at >= len(self.calls)

    def number(self):
        self.at = self.at + 1
        return self.calls[self.at - 1]

    def numbers(self, many):
        self.at = self.at + many
        return self.calls[self.at - many:self.at]

    def row(self):
        many = self.number()
        return self.numbers(many)
