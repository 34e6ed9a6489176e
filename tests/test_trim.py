"""trim: point 11, and trimmed to k."""

import unittest

from helper import (GREATEST, LEAST, Case, begin, cut, get, give, grow, last, less, look, place, put, runs, sums, take,
                    told, trim)

# Free: 3 and 4; 9 to 11; 17 to 20. Runs: 12, and 25 and 26.
HOUSE = [begin(32, 1, 32), take(2, 0, 0, [3]), take(4, 0, 0, [9]), take(4, 0, 0, [17]), take(2, 0, 1, [25]),
         cut(9, 3), give(3), give(9), give(17)]


class TrimTest(Case):
    def assert_trimmed(self, k, asks, rest):
        """So many were given back by these asks; the rest are the rows of pages that are the house's then."""
        calls = [*HOUSE, trim(k)]
        self.assertEqual(last(*calls), (sum(ask[2] for ask in asks), asks), k)
        self.assertEqual(last(*calls, begin(1, 1, 0)), (0, rest), k)

    def test_to_more_than_is_free(self):
        for k in (10, 11, 32, 16384):
            self.assert_trimmed(k, [], [less(3, 2), less(9, 4), less(17, 4), less(25, 2)])

    def test_to_just_what_is_free(self):
        self.assert_trimmed(9, [], [less(3, 2), less(9, 4), less(17, 4), less(25, 2)])

    def test_to_a_part_of_the_highest_row(self):
        self.assert_trimmed(8, [less(20, 1)], [less(3, 2), less(9, 4), less(17, 3), less(25, 2)])
        self.assert_trimmed(6, [less(18, 3)], [less(3, 2), less(9, 4), less(17, 1), less(25, 2)])

    def test_the_highest_row_whole(self):
        self.assert_trimmed(5, [less(17, 4)], [less(3, 2), less(9, 4), less(25, 2)])

    def test_over_several_rows(self):
        self.assert_trimmed(4, [less(17, 4), less(11, 1)], [less(3, 2), less(9, 2), less(12, 1), less(25, 2)])
        self.assert_trimmed(2, [less(17, 4), less(9, 3)], [less(3, 2), less(12, 1), less(25, 2)])
        self.assert_trimmed(1, [less(17, 4), less(9, 3), less(4, 1)], [less(3, 1), less(12, 1), less(25, 2)])

    def test_to_0(self):
        self.assert_trimmed(0, [less(17, 4), less(9, 3), less(3, 2)], [less(12, 1), less(25, 2)])

    def test_nothing_is_free(self):
        for calls in ([begin(8, 1, 0)], [begin(8, 1, 0), take(8)]):
            for k in (0, 1, 16384):
                self.assertEqual(last(*calls, trim(k)), (0, []))

    def test_all_is_free(self):
        calls = [begin(16384, 1, 16384), take(16384), give(0)]
        self.assertEqual(last(*calls, trim(16384)), (0, []))
        self.assertEqual(last(*calls, trim(16383)), (1, [less(16383, 1)]))
        self.assertEqual(last(*calls, trim(1)), (16383, [less(1, 16383)]))
        self.assertEqual(last(*calls, trim(0)), (16384, [less(0, 16384)]))

    def test_again(self):
        self.assertEqual(told(*HOUSE, trim(6), trim(6), trim(7), trim(4))[-4:],
                         [(3, [less(18, 3)]), (0, []), (0, []), (2, [less(17, 1), less(11, 1)])])

    def test_to_k_not_to_spare(self):
        calls = [begin(32, 8, 2), take(1)]
        self.assertEqual(last(*calls, trim(5)), (2, [less(6, 2)]))
        self.assertEqual(last(*calls, trim(1)), (6, [less(2, 6)]))

    def test_spare_is_as_it_was(self):
        self.assertEqual(last(begin(32, 8, 2), take(3), trim(1), give(0)), (3, [less(2, 2)]))

    def test_trimmed_pages_are_outside(self):
        calls = [*HOUSE, trim(4)]
        self.assertEqual([last(*calls, look(page))[0] for page in (10, 11, 12, 17, 20)],
                         [[1, 9, 2, 0], [0, 11, 0, 0], [2, 12, 1, 0], [0, 17, 0, 0], [0, 20, 0, 0]])
        self.assertEqual(last(*calls, take(3, 0, 0, [17])), (17, [(1, 3)]))
        self.assertEqual(last(*calls, grow(12, 2)), (-7, []))

    def test_runs_and_their_bytes_stay(self):
        calls = [begin(32, 8, 32), take(3, 0, 0, [4]), put(place(6) - 1, [1, 2]), trim(0)]
        self.assertEqual(last(*calls), (5, [less(7, 5)]))
        self.assertEqual(last(*calls, runs(0, 9)), ([1, 4, 3, 0], []))
        self.assertEqual(last(*calls, get(place(6) - 2, 4)), ([0, 0, 1, 2, 0], []))

    def test_a_mark_does_not_matter_to_what_is_free(self):
        for value in range(8):
            self.assertEqual(last(begin(32, 8, 32), take(3, 0, value, [4]), trim(0)), (5, [less(7, 5)]))


class RangeTest(Case):
    def test_both_ends(self):
        self.assertEqual(last(*HOUSE, trim(0))[0], 9)
        self.assertEqual(last(*HOUSE, trim(16384)), (0, []))

    def test_outside(self):
        for k in (LEAST, -2, -1, 16385, 16386, GREATEST):
            self.assertEqual(last(*HOUSE, trim(k)), (-8, []), k)
            self.assertEqual(last(*HOUSE, trim(k), sums()), last(*HOUSE, sums()))


class AnswersTest(Case):
    def test_the_answers_of_less_are_not_looked_at(self):
        for g in ([], [-1], [-1, -1, -1], [LEAST, GREATEST, 0, 5], [7] * 4096):
            self.assertEqual(last(*HOUSE, trim(1, g)), last(*HOUSE, trim(1)))
            self.assertEqual(last(*HOUSE, trim(1, g), sums()), last(*HOUSE, trim(1), sums()))
            self.assertEqual(last(*HOUSE, trim(-1, g)), (-8, []))


if __name__ == "__main__":
    unittest.main()
