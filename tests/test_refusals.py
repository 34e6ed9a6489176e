"""A refusal is its number alone, and all is as it was then."""

import unittest

from helper import (GREATEST, LEAST, Case, begin, cut, differences, get, give, grow, join, last, less, look, mark,
                    more, place, put, runs, seen, sums, take, told, trim)
from pagehouse.desk import answers

SIZE = 12

# Outside: 0, 6, 10, 11. Free: 1, 5. Runs: 2 and 3, marked 4; 4, marked 3; 7 and 8, marked 0; 9, marked 0.
# Bytes stand over the borders of all the pages from 1 to 5, and from 7 to 9.
HOUSE = [begin(SIZE, 2, 2), take(5, 0, 0, [1]), take(3, 0, 0, [7])]
HOUSE += [put(place(page) - 2, [page, 20 + page, 40 + page, 60 + page]) for page in (2, 3, 4, 5, 8, 9)]
HOUSE += [cut(1, 1), cut(2, 2), cut(4, 1), cut(7, 2), mark(2, 4), mark(4, 3), give(1), give(5)]

REFUSED = {
    "begin": [(begin(*numbers), -8) for numbers in (
        (0, 1, 0), (16385, 1, 0), (8, 0, 0), (8, 1025, 0), (8, 1, -1), (8, 1, 16385))],
    "take": [(take(*numbers), -8) for numbers in (
        (0, 0, 0), (16385, 0, 0), (1, -1, 0), (1, 11, 0), (1, 0, -1), (1, 0, 8), (LEAST, GREATEST, 0))],
    "give": [(give(0), -5), (give(1), -5), (give(3), -5), (give(-1), -5), (give(SIZE), -5), (give(2), -6)],
    "grow": [(grow(2, 0), -8), (grow(7, 16385), -8), (grow(0, 1), -5), (grow(3, 1), -5), (grow(5, 1), -5),
             (grow(2, 1), -6), (grow(2, 2), -6), (grow(2, 3), -6), (grow(7, 3), -7), (grow(4, 3), -7),
             (grow(9, 2), -7), (grow(9, 16384), -7)],
    "cut": [(cut(0, 1), -5), (cut(3, 1), -5), (cut(7, 0), -5), (cut(7, 2), -5), (cut(9, 1), -5), (cut(7, -1), -5)],
    "join": [(join(0), -5), (join(3), -5), (join(9), -5), (join(4), -5), (join(2), -6)],
    "mark": [(mark(2, -1), -8), (mark(2, 8), -8), (mark(3, 0), -5), (mark(0, 0), -5), (mark(5, 7), -5)],
    "put": [(put(at, [91, 92, 93]), -5) for at in (
        LEAST, -1, 0, place(1), place(2) - 1, place(4) - 1, place(4) - 2, place(5) - 1, place(5), place(6),
        place(7) - 1, place(9) - 2, place(10) - 2, place(10), place(SIZE), GREATEST)] + [
        (put(place(1)), -5), (put(place(4), [91]), -6), (put(place(5) - 3, [91, 92, 93]), -6), (put(place(4)), -6)],
    "get": [(get(at, n), -8) for at in (LEAST, -1, place(2), place(4), place(5), GREATEST) for n in (-1, 4097)] + [
        (get(place(4) - 1, 2), -5), (get(place(5) - 1, 2), -5), (get(place(1), 0), -5), (get(place(6), 1), -5),
        (get(-1, 2), -5), (get(GREATEST, 4096), -5), (get(place(4), 4096), -6), (get(place(4), 0), -6)],
    "look": [(look(p), -8) for p in (LEAST, -1, 16384, GREATEST)],
    "runs": [(runs(*numbers), -8) for numbers in ((-1, 1), (LEAST, 1), (0, -1), (0, 1025), (-1, 1025))],
    "trim": [(trim(k), -8) for k in (LEAST, -1, 16385, GREATEST)],
}

# Calls that are no refusal, but change nothing either.
STILL = [put(place(2)), get(place(2), 4096), get(place(9), 0), look(1), look(2), look(0), look(16383), runs(0, 1024),
         runs(9, 0), sums(), trim(2), trim(16384), grow(7, 2)]


class AsItWasTest(Case):
    def setUp(self):
        self.wanted = seen(SIZE, *HOUSE)

    def assert_as_it_was(self, call):
        self.assertEqual(differences(seen(SIZE, *HOUSE, call), self.wanted), [], call)

    def assert_only_sums_differ(self, first, second):
        # The asks were made, so they count, refused or not.
        self.assertEqual([pair[0][0] for pair in differences(first, second)], [[sums()]])

    def test_the_house_is_the_one_that_is_told_above(self):
        self.assertEqual([answer[0] for answer in told(*HOUSE)], [0, 1, 7] + 6 * [0] + [2, 4, 5, 9, 0, 0, 1, 1])
        self.assertEqual(last(*HOUSE, runs(0, 9)), ([4, 2, 2, 4, 4, 1, 3, 7, 2, 0, 9, 1, 0], []))
        self.assertEqual(last(*HOUSE, sums()), ([0, 8, 2, 6, 2, 0, 8, 0, 8], []))
        self.assertEqual(last(*HOUSE, get(place(3) - 3, 6)), ([0, 0, 3, 23, 43, 63, 0], []))
        self.assertEqual(last(*HOUSE, begin(1, 1, 0)), (0, [less(1, 5), less(7, 3)]))

    def test_a_call_that_changes_something_is_seen(self):
        for call in (mark(2, 5), mark(9, 1), mark(4, 1), cut(7, 1), join(7), give(7), give(4), grow(4, 2), take(1),
                     take(1, 1, 0, [-1, 11]), begin(SIZE, 2, 2), begin(SIZE, 1, 2),
                     put(place(2), [91]), put(place(10) - 1, [91]), put(place(8, 7), [91]), trim(1), trim(0)):
            self.assertNotEqual(differences(seen(SIZE, *HOUSE, call), self.wanted), [], call)

    def test_behind_a_refusal(self):
        for name, pairs in REFUSED.items():
            for call, refusal in pairs:
                with self.subTest(name=name, call=call):
                    self.assertEqual(last(*HOUSE, call), (refusal, []))
                    self.assert_as_it_was(call)

    def test_behind_a_call_that_only_tells_something(self):
        for call in STILL:
            first = last(*HOUSE, call)[0]
            self.assertGreaterEqual(first[0] if isinstance(first, list) else first, 0, call)
            self.assert_as_it_was(call)

    def test_behind_a_take_whose_every_ask_is_refused(self):
        for g in ([-1, -1, -1], [LEAST, LEAST, LEAST], [GREATEST, GREATEST, GREATEST], [1, 3, 8], [11, 9, 5]):
            call = take(3, 1, 0, g)
            self.assertEqual(last(*HOUSE, call), (-7, [more(4), more(3)]))
            self.assert_only_sums_differ(seen(SIZE, *HOUSE, call), self.wanted)
            self.assertEqual(last(*HOUSE, call, sums()), ([0, 8, 2, 6, 4, 2, 8, 0, 8], []))

    def test_behind_no_room_what_came_is_free_and_nothing_else_is_changed(self):
        came = [*HOUSE, take(2, 3, 0, [-1, 10])]
        self.assertEqual(last(*came), (-7, [more(9), more(2)]))
        taken = [*HOUSE, take(2, 0, 0, [10])]
        self.assertEqual(last(*taken), (10, [more(2)]))
        self.assertEqual(last(*came, begin(1, 1, 0)), (0, [less(1, 5), less(7, 5)]))
        self.assert_only_sums_differ(seen(SIZE, *came, take(2)), seen(SIZE, *taken))
        self.assertEqual(last(*came, sums()), ([0, 10, 4, 6, 4, 1, 10, 0, 10], []))

    def test_the_given_answers_count_for_nothing_in_a_refusal(self):
        for call in (begin(0, 1, 0, [3, 4]), take(0, 0, 0, [0]), give(0, [0]), grow(7, 3, [10]), cut(0, 1, [0]),
                     join(0, [0]), mark(0, 0, [0]), put(0, [1], [0]), get(0, 1, [0]), look(-1, [0]), runs(-1, 1, [0]),
                     trim(-1, [0])):
            self.assertLess(last(*HOUSE, call)[0], 0)
            self.assert_as_it_was(call)

    def test_its_number_stands_alone(self):
        first = begin(8, 1, 0)
        for call, number in ((begin(0, 1, 0), -8), (take(0), -8), (give(0), -5), (grow(0, 0), -8), (grow(0, 1), -5),
                             (cut(0, 1), -5), (join(0), -5), (mark(0, 8), -8), (mark(0, 0), -5), (put(0, [1]), -5),
                             (get(0, 1), -5), (get(0, -1), -8), (look(-1), -8), (runs(-1, 0), -8), (trim(-1), -8)):
            self.assertEqual(answers(first + call), [2, 0, 0, 2, 0, number])
        self.assertEqual(answers(first + take(1, 0, 0, [-1])), [2, 0, 0, 4, 1, 1, 1, -7])
        unreadable = [*first, *take(1, 0, 2)]
        for call in (put(0, [1]), get(0, 1)):
            self.assertEqual(answers(unreadable + call), [2, 0, 0, 4, 1, 1, 1, 0, 2, 0, -6])


if __name__ == "__main__":
    unittest.main()
