"""Long lines of calls, drawn from fixed seeds, against the slow model."""

import random
import unittest

import helper
from helper import LEAST, GREATEST, begin, cut, give, grow, join, mark, take, told


class Drawer:
    def __init__(self, seed):
        self.random = random.Random(seed)
        self.size = self.random.choice([1, 2, 8, 24, 40])

    def g(self):
        many = self.random.choice([0, 1, 2, 3, 5])
        return [self.random.choice([-1, LEAST, GREATEST] + 12 * [self.random.randrange(self.size + 1)])
                for unused in range(many)]

    def page(self):
        return self.random.randrange(-1, self.size + 1)

    def count(self):
        return self.random.choice([0, 16385, LEAST, GREATEST] + 4 * list(range(1, 8)))

    def mark(self):
        return self.random.choice([-1, 8] + 12 * [0] + 2 * list(range(8)))

    def begin(self):
        self.size = self.random.choice([self.size, self.size + 3])
        chunk = self.random.choice([0, 1025] + 3 * [1, 2, 3, 6])
        return begin(self.size, chunk, self.random.choice([-1, 0, 1, 2, 3, 5, 9, 16384]), self.g())

    def call(self):
        chance = self.random.randrange(100)
        if chance < 3:
            return self.begin()
        if chance < 40:
            return take(self.count(), self.random.choice([-1, 11, 3] + 5 * [0, 1, 2]), self.mark(), self.g())
        if chance < 55:
            return give(self.page(), self.g())
        if chance < 70:
            return grow(self.page(), self.count(), self.g())
        if chance < 80:
            return cut(self.page(), self.random.randrange(-1, 6), self.g())
        if chance < 90:
            return join(self.page(), self.g())
        return mark(self.page(), self.mark(), self.g())

    def calls(self):
        first = begin(self.size, self.random.choice([1, 2, 4, 7]), self.random.choice([0, 1, 3, 6, 16384]))
        return [first] + [self.call() for unused in range(self.random.randrange(100))]


class ModelTest(unittest.TestCase):
    def test_drawn_lines(self):
        reached = {}
        for seed in range(1500):
            calls = Drawer(seed).calls()
            slow = helper.SlowHouse()
            wanted = [slow.call(call) for call in calls]
            self.assertEqual(told(*calls), wanted, f"seed {seed}")
            for call, answer in zip(calls, wanted):
                reached[call[0], min(answer[0], 0)] = True
        refusals = {0: [-8], 1: [-8, -7], 2: [-5, -6], 3: [-8, -5, -6, -7], 4: [-5], 5: [-5, -6], 6: [-8, -5]}
        pairs = [(call, number) for call in refusals for number in [0] + refusals[call]]
        self.assertEqual(sorted(reached), sorted(pairs))


if __name__ == "__main__":
    unittest.main()
