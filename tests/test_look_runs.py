"""look and runs: points 8 and 9."""

import unittest

from helper import (GREATEST, LEAST, Case, begin, cut, get, give, grow, join, last, less, look, mark, more, place, put,
                    runs, take, told, trim)

# Free: 2 and 3; 7; 12 to 14. Runs: 4 to 6, marked 5; 8, marked 0; 9 and 10, marked 0; 19, marked 7.
HOUSE = [begin(20, 1, 20), take(9, 0, 0, [2]), take(3, 0, 0, [12]), take(1, 0, 7, [19]),
         cut(2, 2), cut(4, 3), cut(7, 1), cut(8, 1), give(7), give(2), give(12), mark(4, 5)]

LOOKS = {0: [0, 0, 0, 0], 1: [0, 1, 0, 0], 2: [1, 2, 2, 0], 3: [1, 2, 2, 0], 4: [2, 4, 3, 5], 5: [2, 4, 3, 5],
         6: [2, 4, 3, 5], 7: [1, 7, 1, 0], 8: [2, 8, 1, 0], 9: [2, 9, 2, 0], 10: [2, 9, 2, 0], 11: [0, 11, 0, 0],
         12: [1, 12, 3, 0], 13: [1, 12, 3, 0], 14: [1, 12, 3, 0], 15: [0, 15, 0, 0], 18: [0, 18, 0, 0],
         19: [2, 19, 1, 7], 20: [0, 20, 0, 0], 21: [0, 21, 0, 0], 16383: [0, 16383, 0, 0]}

RUNS = [[4, 3, 5], [8, 1, 0], [9, 2, 0], [19, 1, 7]]


def listed(some):
    return [len(RUNS)] + [number for run in some for number in run]


class LookTest(Case):
    def test_each_kind_of_page(self):
        for page, wanted in LOOKS.items():
            self.assertEqual(last(*HOUSE, look(page)), (wanted, []), page)

    def test_pages_beyond_the_houses_size_are_outside(self):
        self.assertEqual(last(begin(1, 1, 1), take(1), look(0)), ([2, 0, 1, 0], []))
        self.assertEqual(last(begin(1, 1, 1), take(1), look(1)), ([0, 1, 0, 0], []))
        self.assertEqual(last(begin(1, 1, 1), look(16383)), ([0, 16383, 0, 0], []))

    def test_both_ends_of_the_largest_house(self):
        taken = [begin(16384, 1, 16384), take(16384, 0, 3)]
        free = [*taken, give(0)]
        for page in (0, 1, 8191, 16382, 16383):
            self.assertEqual(last(begin(16384, 1, 0), look(page)), ([0, page, 0, 0], []))
            self.assertEqual(last(*taken, look(page)), ([2, 0, 16384, 3], []))
            self.assertEqual(last(*free, look(page)), ([1, 0, 16384, 0], []))

    def test_out_of_range(self):
        for p in (LEAST, -2, -1, 16384, 16385, GREATEST):
            self.assertEqual(last(*HOUSE, look(p)), (-8, []), p)
            self.assertEqual(last(begin(16384, 1, 0), take(16384), look(p)), (-8, []), p)

    def test_each_mark(self):
        for value in range(8):
            self.assertEqual(last(begin(8, 1, 8), take(2, 0, value, [3]), look(4)), ([2, 3, 2, value], []))
            self.assertEqual(last(*HOUSE, mark(9, value), look(10)), ([2, 9, 2, value], []))

    def test_a_free_page_has_no_mark(self):
        self.assertEqual(last(begin(8, 1, 8), take(2, 0, 3, [3]), give(3), look(4)), ([1, 3, 2, 0], []))
        self.assertEqual(last(begin(8, 1, 8), take(2, 0, 3, [3]), grow(3, 1), look(4)), ([1, 4, 1, 0], []))

    def test_runs_that_touch_are_told_apart(self):
        calls = [begin(8, 1, 8), take(4, 0, 0, [2]), cut(2, 1), cut(3, 2)]
        self.assertEqual([answer[0] for answer in told(*calls, *[look(page) for page in range(1, 7)])[4:]],
                         [[0, 1, 0, 0], [2, 2, 1, 0], [2, 3, 2, 0], [2, 3, 2, 0], [2, 5, 1, 0], [0, 6, 0, 0]])
        self.assertEqual(last(*calls, join(2), look(4)), ([2, 2, 3, 0], []))

    def test_a_free_row_is_as_long_as_there_are_free_pages(self):
        calls = [begin(16, 1, 16), take(6, 0, 0, [4]), cut(4, 2), cut(6, 2), give(4), give(8)]
        self.assertEqual([last(*calls, look(page))[0] for page in (5, 6, 8)],
                         [[1, 4, 2, 0], [2, 6, 2, 0], [1, 8, 2, 0]])
        for page in range(4, 10):
            self.assertEqual(last(*calls, give(6), look(page)), ([1, 4, 6, 0], []))

    def test_what_comes_is_joined_with_what_is_free(self):
        # 5 is free; 3 and 4 come, but no multiple of 8 is among them.
        calls = [begin(16, 1, 16), take(1, 0, 0, [5]), give(5), take(2, 3, 0, [-1, 3])]
        self.assertEqual(last(*calls), (-7, [more(9), more(2)]))
        for page in (3, 4, 5):
            self.assertEqual(last(*calls, look(page)), ([1, 3, 3, 0], []))

    def test_what_is_left_free_beside_a_run(self):
        calls = [begin(32, 10, 32), take(2, 2, 0, [3])]
        self.assertEqual([last(*calls, look(page))[0] for page in (2, 3, 4, 5, 6, 12, 13)],
                         [[0, 2, 0, 0], [1, 3, 1, 0], [2, 4, 2, 0], [2, 4, 2, 0], [1, 6, 7, 0], [1, 6, 7, 0],
                          [0, 13, 0, 0]])

    def test_trimmed_pages_are_outside(self):
        calls = [begin(32, 10, 32), take(1, 0, 0, [3]), trim(4)]
        self.assertEqual([last(*calls, look(page))[0] for page in (3, 4, 7, 8)],
                         [[2, 3, 1, 0], [1, 4, 4, 0], [1, 4, 4, 0], [0, 8, 0, 0]])

    def test_behind_another_begin_all_is_outside(self):
        for page in range(20):
            self.assertEqual(last(*HOUSE, begin(20, 1, 0), look(page)), ([0, page, 0, 0], []))


class RunsTest(Case):
    def test_all_of_them(self):
        self.assertEqual(last(*HOUSE, runs(0, 1024)), (listed(RUNS), []))

    def test_from_and_most(self):
        for start in range(7):
            for most in range(7):
                self.assertEqual(last(*HOUSE, runs(start, most)), (listed(RUNS[start:][:most]), []), (start, most))

    def test_the_first_the_middle_the_last_and_behind_it(self):
        for start, some in ((0, RUNS[:1]), (2, RUNS[2:3]), (3, RUNS[3:]), (4, []), (5, []), (GREATEST, [])):
            self.assertEqual(last(*HOUSE, runs(start, 1)), (listed(some), []), start)

    def test_none_are_asked_for(self):
        for start in (0, 1, 4, GREATEST):
            self.assertEqual(last(*HOUSE, runs(start, 0)), ([4], []), start)

    def test_there_are_none(self):
        for calls in ([begin(8, 1, 0)], [begin(8, 4, 8), take(1), give(0)], [*HOUSE, begin(8, 1, 0)]):
            for start, most in ((0, 0), (0, 1), (0, 1024), (1, 1), (GREATEST, 1024)):
                self.assertEqual(last(*calls, runs(start, most)), ([0], []))

    def test_out_of_range(self):
        for start, most in ((-1, 1), (LEAST, 1), (0, -1), (0, 1025), (0, LEAST), (0, GREATEST), (-1, 1025),
                            (GREATEST, 1025), (GREATEST, -1), (-1, 0), (4, -1)):
            self.assertEqual(last(*HOUSE, runs(start, most)), (-8, []), (start, most))

    def test_both_ends_of_the_ranges(self):
        self.assertEqual(last(*HOUSE, runs(0, 0)), ([4], []))
        self.assertEqual(last(*HOUSE, runs(0, 1024)), (listed(RUNS), []))
        self.assertEqual(last(*HOUSE, runs(GREATEST, 1024)), ([4], []))

    def test_by_their_places_not_by_when_they_came(self):
        calls = [begin(32, 1, 32), take(1, 0, 1, [20]), take(2, 0, 2, [9]), take(3, 0, 3, [25]), take(1, 0, 4, [0])]
        self.assertEqual(last(*calls, runs(0, 9)), ([4, 0, 1, 4, 9, 2, 2, 20, 1, 1, 25, 3, 3], []))
        self.assertEqual(last(*calls, runs(1, 2)), ([4, 9, 2, 2, 20, 1, 1], []))

    def test_cut_joined_marked_grown_and_given(self):
        calls = [begin(32, 8, 32), take(5, 0, 2, [4])]
        self.assertEqual(last(*calls, cut(4, 2), runs(0, 9)), ([2, 4, 2, 2, 6, 3, 2], []))
        self.assertEqual(last(*calls, cut(4, 2), mark(6, 1), runs(0, 9)), ([2, 4, 2, 2, 6, 3, 1], []))
        self.assertEqual(last(*calls, cut(4, 2), join(4), runs(0, 9)), ([1, 4, 5, 2], []))
        self.assertEqual(last(*calls, grow(4, 7), runs(0, 9)), ([1, 4, 7, 2], []))
        self.assertEqual(last(*calls, grow(4, 1), runs(0, 9)), ([1, 4, 1, 2], []))
        self.assertEqual(last(*calls, cut(4, 2), give(4), runs(0, 9)), ([1, 6, 3, 2], []))

    def test_as_many_as_a_line_can_make(self):
        calls = [begin(16384, 1, 0), take(98)] + [cut(step, 1) for step in range(97)]
        wanted = [number for step in range(98) for number in (step, 1, 0)]
        self.assertEqual(last(*calls, runs(0, 1024)), ([98] + wanted, []))
        self.assertEqual(last(*calls, runs(50, 3)), ([98] + wanted[150:159], []))
        self.assertEqual(last(*calls, runs(97, 1024)), ([98] + wanted[-3:], []))
        self.assertEqual(last(*calls, runs(98, 1024)), ([98], []))


class NothingIsChangedTest(Case):
    def test_the_answers_count_for_nothing(self):
        for g in ([], [-1], [5, 6, 7], [LEAST, GREATEST], [0] * 4096):
            self.assertEqual(last(*HOUSE, look(9, g)), ([2, 9, 2, 0], []))
            self.assertEqual(last(*HOUSE, look(16384, g)), (-8, []))
            self.assertEqual(last(*HOUSE, runs(1, 1, g)), ([4, 8, 1, 0], []))
            self.assertEqual(last(*HOUSE, runs(-1, 1, g)), (-8, []))

    def test_the_same_is_told_again(self):
        calls = [*HOUSE, put(place(8), [3]), look(4), runs(1, 2), look(4), runs(1, 2), get(place(8), 1)]
        self.assertEqual(told(*calls)[-5:], 2 * [([2, 4, 3, 5], []), ([4, 8, 1, 0, 9, 2, 0], [])] + [([0, 3], [])])

    def test_nothing_is_trimmed(self):
        calls = [begin(32, 8, 0), take(1), look(0), look(1), runs(0, 1), begin(32, 8, 0)]
        self.assertEqual(last(*calls), (0, [less(0, 8)]))


if __name__ == "__main__":
    unittest.main()
