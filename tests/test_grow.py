"""grow: point 4."""

import unittest

from helper import (GREATEST, LEAST, Case, begin, cut, get, give, grow, join, last, less, mark, more, place, put, take,
                    told)

# A run of pages 4 to 6, marked 1, with 7 to 11 free behind it.
RUN = [begin(32, 8, 32), take(3, 0, 1, [4])]


class RangeTest(Case):
    def test_both_ends(self):
        self.assertEqual(last(*RUN, grow(4, 1)), (1, []))
        self.assertEqual(last(*RUN, grow(4, 16384)), (-7, []))
        self.assertEqual(last(begin(16384, 1024, 0), take(16384), grow(0, 16384)), (16384, []))
        self.assertEqual(last(begin(16384, 1, 16384), take(16384), grow(0, 1), grow(0, 16384)), (16384, []))

    def test_outside(self):
        for number in (LEAST, -1, 0, 16385, GREATEST):
            self.assertEqual(last(*RUN, grow(4, number)), (-8, []), number)

    def test_out_of_range_comes_ahead_of_all_else(self):
        self.assertEqual(last(*RUN, grow(5, 0)), (-8, []))
        self.assertEqual(last(*RUN, mark(4, 4), grow(4, 16385)), (-8, []))


class FewerTest(Case):
    def test_its_last_pages_are_free(self):
        calls = [*RUN, grow(4, 2)]
        self.assertEqual(last(*calls), (2, []))
        self.assertEqual(last(*calls, give(4)), (2, []))
        self.assertEqual(last(*calls, take(6)), (6, []))

    def test_it_is_trimmed_to_spare(self):
        calls = [begin(32, 8, 5), take(3, 0, 0, [4]), grow(4, 2), grow(4, 1)]
        self.assertEqual(told(*calls)[2:], [(2, [less(11, 1)]), (1, [less(10, 1)])])

    def test_trimmed_over_rows_and_a_part_of_one(self):
        calls = [begin(64, 8, 3), take(8, 0, 0, [16]), take(8, 0, 0, [32]), take(2), grow(32, 5)]
        self.assertEqual(last(*calls), (5, [less(37, 3), less(5, 3)]))
        self.assertEqual(last(*calls, begin(1, 1, 0)), (0, [less(0, 5), less(16, 8), less(32, 5)]))

    def test_the_answers_of_less_are_not_looked_at(self):
        calls = [begin(32, 8, 0), take(8, 0, 0, [4])]
        self.assertEqual(last(*calls, grow(4, 2, [-1, -1])), (2, [less(6, 6)]))


class SameTest(Case):
    def test_nothing_changes_and_nothing_is_trimmed(self):
        calls = [begin(32, 8, 0), take(3, 0, 1, [4]), grow(4, 3)]
        self.assertEqual(last(*calls), (3, []))
        self.assertEqual(last(*calls, begin(1, 1, 0)), (0, [less(4, 8)]))


class MoreTest(Case):
    def test_the_pages_right_behind_it_are_its_own(self):
        calls = [*RUN, grow(4, 5)]
        self.assertEqual(last(*calls), (5, []))
        self.assertEqual(last(*calls, give(4)), (5, []))
        self.assertEqual(last(*calls, take(1)), (9, []))

    def test_all_that_are_free(self):
        self.assertEqual(last(*RUN, grow(4, 8)), (8, []))
        self.assertEqual(last(*RUN, grow(4, 9)), (-7, []))

    def test_nothing_is_asked(self):
        self.assertEqual(last(*RUN, grow(4, 9, [12])), (-7, []))

    def test_nothing_is_trimmed(self):
        calls = [begin(32, 8, 0), take(3, 0, 0, [4]), grow(4, 4)]
        self.assertEqual(last(*calls), (4, []))
        self.assertEqual(last(*calls, begin(1, 1, 0)), (0, [less(4, 8)]))

    def test_a_run_right_behind_it(self):
        calls = [*RUN, cut(4, 1)]
        self.assertEqual(last(*calls, grow(4, 2)), (-7, []))
        self.assertEqual(last(*calls, grow(5, 3)), (3, []))

    def test_a_run_further_behind_it(self):
        calls = [*RUN, cut(4, 1), cut(5, 1), give(5), grow(4, 3)]
        self.assertEqual(last(*calls), (-7, []))
        self.assertEqual(last(*calls, grow(4, 2)), (2, []))

    def test_free_pages_that_are_not_right_behind_it(self):
        calls = [begin(32, 1, 32), take(1, 0, 0, [4]), take(3, 0, 0, [6]), give(6)]
        self.assertEqual(last(*calls, grow(4, 2)), (-7, []))

    def test_the_houses_end(self):
        self.assertEqual(last(begin(8, 1, 8), take(2, 0, 0, [6]), grow(6, 3)), (-7, []))
        self.assertEqual(last(begin(8, 1, 8), take(2, 0, 0, [6]), grow(6, 1), grow(6, 2)), (2, []))

    def test_its_mark_stays(self):
        for change in (grow(4, 6), grow(4, 2), grow(4, 3)):
            calls = [*RUN, change, cut(4, 1)]
            self.assertGreater(last(*calls, mark(4, 1), join(4))[0], 0)
            self.assertEqual(last(*calls, mark(4, 0), join(4)), (-6, []))

    def test_their_bytes_are_0_and_its_own_stay(self):
        calls = [begin(16, 8, 16), take(4)] + [put(place(page), [7] * 4096) for page in range(4)]
        calls += [grow(0, 1), grow(0, 3)]
        for page, byte in enumerate([7, 0, 0]):
            self.assertEqual(last(*calls, get(place(page), 4096)), ([0] + [byte] * 4096, []))


class RefusalTest(Case):
    def test_no_run_begins_there(self):
        for p in (LEAST, -1, 0, 3, 5, 6, 7, 31, 32, GREATEST):
            self.assertEqual(last(*RUN, grow(p, 2)), (-5, []), p)

    def test_a_mark_with_4(self):
        for value in range(8):
            for n in (2, 3, 4):
                wanted = (-6, []) if value >= 4 else (n, [])
                self.assertEqual(last(*RUN, mark(4, value), grow(4, n)), wanted)

    def test_no_run_there_comes_ahead_of_the_mark(self):
        self.assertEqual(last(*RUN, mark(4, 4), grow(5, 2)), (-5, []))

    def test_the_mark_comes_ahead_of_no_room(self):
        self.assertEqual(last(*RUN, mark(4, 4), grow(4, 16384)), (-6, []))


class BehindGrowTest(Case):
    def test_pages_given_up_by_the_end_are_asked_for_again(self):
        calls = [begin(8, 1, 0), take(3), grow(0, 1), take(2, 0, 0, [1])]
        self.assertEqual(told(*calls)[2:], [(1, [less(1, 2)]), (1, [more(2)])])


if __name__ == "__main__":
    unittest.main()
