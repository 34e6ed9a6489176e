"""Long lines of calls, drawn from fixed seeds, against the slow model."""

import random
import unittest

import helper
from helper import (GREATEST, LEAST, Case, begin, cut, get, give, grow, join, look, mark, place, put, runs, sums, take,
                    told, trim)
from pagehouse.desk import answers

# Each call's refusals, by its number.
REFUSALS = {0: [-8], 1: [-8, -7], 2: [-5, -6], 3: [-8, -5, -6, -7], 4: [-5], 5: [-5, -6], 6: [-8, -5], 7: [-5, -6],
            8: [-8, -5, -6], 9: [-8], 10: [-8], 11: [], 12: [-8]}


class Drawer:
    def __init__(self, seed):
        self.random = random.Random(seed)
        self.size = self.random.choice([1, 2, 8, 24, 40])

    def g(self):
        many = self.random.choice([0, 1, 2, 3, 5])
        return [self.random.choice([-1, LEAST, GREATEST] + 12 * [self.random.randrange(self.size + 1)])
                for unused in range(many)]

    def page(self):
        return self.random.randrange(-1, self.size + 1)

    def count(self):
        return self.random.choice([0, 16385, LEAST, GREATEST] + 4 * list(range(1, 8)))

    def mark(self):
        return self.random.choice([-1, 8] + 12 * [0] + 2 * list(range(8)))

    def place(self):
        # Few places, and near the borders of pages, so that what is put is met again.
        near = place(self.page(), self.random.choice([-2, -1, 0, 0, 1, 2, 4090]))
        return self.random.choice([LEAST, GREATEST] + 40 * [near])

    def byte_count(self):
        return self.random.choice([-1, 4097, LEAST, GREATEST, 4095, 4096] + 8 * list(range(9)))

    def begin(self):
        self.size = self.random.choice([self.size, self.size + 3])
        chunk = self.random.choice([0, 1025] + 3 * [1, 2, 3, 6])
        return begin(self.size, chunk, self.random.choice([-1, 0, 1, 2, 3, 5, 9, 16384]), self.g())

    def bytes(self):
        many = min(max(self.byte_count(), 0), 4096)
        return [self.random.randrange(256) for unused in range(many)]

    def acting(self):
        chance = self.random.randrange(100)
        if chance < 3:
            return self.begin()
        if chance < 40:
            return take(self.count(), self.random.choice([-1, 11, 3] + 5 * [0, 1, 2]), self.mark(), self.g())
        if chance < 53:
            return give(self.page(), self.g())
        if chance < 68:
            return grow(self.page(), self.count(), self.g())
        if chance < 78:
            return cut(self.page(), self.random.randrange(-1, 6), self.g())
        if chance < 88:
            return join(self.page(), self.g())
        if chance < 96:
            return mark(self.page(), self.mark(), self.g())
        return trim(self.random.choice([-1, 16384, 16385] + list(range(9))), self.g())

    def telling(self):
        chance = self.random.randrange(100)
        if chance < 35:
            return put(self.place(), self.bytes(), self.g())
        if chance < 75:
            return get(self.place(), self.byte_count(), self.g())
        if chance < 85:
            return look(self.random.choice([self.page(), self.page(), 16383, 16384]), self.g())
        if chance < 95:
            start = self.random.choice([-1, LEAST, GREATEST] + 5 * list(range(6)))
            return runs(start, self.random.choice([-1, 1025, 1024, 0, 1, 2, 3]), self.g())
        return sums(self.g())

    def calls(self):
        result = [begin(self.size, self.random.choice([1, 2, 4, 7]), self.random.choice([0, 1, 3, 6, 16384]))]
        room = 30000 - len(result[0])
        for unused in range(self.random.randrange(100)):
            call = self.acting() if self.random.randrange(2) else self.telling()
            room -= len(call)
            if room >= 0:
                result.append(call)
        return result


def outcome(answer):
    """0 for what is told, or the refusal."""
    return 0 if isinstance(answer[0], list) else min(answer[0], 0)


class ModelTest(Case):
    def test_drawn_lines(self):
        reached = {}
        for seed in range(1500):
            calls = Drawer(seed).calls()
            slow = helper.SlowHouse()
            wanted = [slow.call(call) for call in calls]
            for number, (call, answer, one) in enumerate(zip(calls, told(*calls), wanted)):
                self.assertEqual(answer, one, f"seed {seed}, call {number}: {call[:6]}")
                reached[call[0], outcome(one)] = True
        pairs = [(call, number) for call in REFUSALS for number in [0] + REFUSALS[call]]
        self.assertEqual(sorted(reached), sorted(pairs))

    def test_drawn_lines_are_left_alone_and_answered_the_same_again(self):
        for seed in range(100):
            calls = helper.line(Drawer(seed).calls())
            handed = list(calls)
            first = answers(handed)
            self.assertEqual(handed, calls, f"seed {seed}")
            self.assertEqual(answers(handed), first, f"seed {seed}")


if __name__ == "__main__":
    unittest.main()
