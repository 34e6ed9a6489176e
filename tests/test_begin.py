"""begin: point 1."""

import unittest

from helper import GREATEST, LEAST, begin, cut, give, last, less, mark, more, take, told


class RangeTest(unittest.TestCase):
    def answered(self, size, chunk, spare):
        return last(begin(8, 1, 0), begin(size, chunk, spare))

    def test_both_ends_are_taken(self):
        for numbers in ((1, 1, 0), (16384, 1, 0), (1, 1024, 0), (1, 1, 16384), (16384, 1024, 16384)):
            self.assertEqual(self.answered(*numbers), (0, []), numbers)

    def test_just_outside_is_refused(self):
        for numbers in ((0, 1, 0), (16385, 1, 0), (1, 0, 0), (1, 1025, 0), (1, 1, -1), (1, 1, 16385)):
            self.assertEqual(self.answered(*numbers), (-8, []), numbers)

    def test_far_outside_is_refused(self):
        for number in (LEAST, -1, GREATEST):
            for numbers in ((number, 1, 0), (1, number, 0), (1, 1, number)):
                self.assertEqual(self.answered(*numbers), (-8, []), numbers)

    def test_the_first_one_is_answered_without_an_ask(self):
        self.assertEqual(told(begin(1, 1, 0)), [(0, [])])


class NewHouseTest(unittest.TestCase):
    def test_all_pages_are_outside(self):
        for page in range(4):
            self.assertEqual(last(begin(4, 1, 4), take(1, 0, 0, [page])), (page, [more(1)]))

    def test_pages_go_from_0_to_size_less_1(self):
        self.assertEqual(last(begin(4, 1, 4), take(1, 0, 0, [4])), (-7, [more(1)]))
        self.assertEqual(last(begin(4, 1, 4), take(4, 0, 0, [0])), (0, [more(4)]))
        self.assertEqual(last(begin(16384, 1, 4), take(1, 0, 0, [16383])), (16383, [more(1)]))

    def test_chunk_and_spare_are_the_new_ones(self):
        calls = [begin(16, 1, 16), begin(16, 5, 1), take(1), give(0)]
        self.assertEqual(told(*calls)[2:], [(0, [more(5)]), (1, [less(1, 4)])])

    def test_runs_of_the_old_house_are_gone(self):
        self.assertEqual(last(begin(8, 1, 8), take(2), begin(8, 1, 8), give(0)), (-5, []))

    def test_free_pages_of_the_old_house_are_gone(self):
        self.assertEqual(last(begin(8, 4, 8), take(1), begin(8, 4, 8), take(1, 0, 0, [-1, 6])), (6, [more(4), more(1)]))

    def test_the_old_size_is_gone(self):
        self.assertEqual(last(begin(8, 1, 8), begin(4, 1, 8), take(1, 0, 0, [4])), (-7, [more(1)]))
        self.assertEqual(last(begin(4, 1, 8), begin(8, 1, 8), take(1, 0, 0, [4])), (4, [more(1)]))


class GivenBackTest(unittest.TestCase):
    def test_nothing_to_give_back(self):
        self.assertEqual(last(begin(8, 1, 0), begin(8, 1, 0)), (0, []))

    def test_free_and_taken_pages_that_touch_are_one_row(self):
        # 2 and 3 taken, 4 and 5 free, 6 and 7 taken: all one row.
        calls = [begin(16, 4, 16), take(4, 0, 0, [4]), cut(4, 2), take(2, 0, 0, [-1, 2]), give(4), begin(9, 1, 0)]
        self.assertEqual(last(*calls), (0, [less(2, 6)]))

    def test_a_free_page_ahead_of_a_run_and_one_behind_it(self):
        calls = [begin(16, 1, 16), take(3, 0, 0, [5]), cut(5, 1), cut(6, 1), give(5), give(7), begin(9, 1, 0)]
        self.assertEqual(last(*calls), (0, [less(5, 3)]))

    def test_runs_that_touch_are_one_row(self):
        self.assertEqual(last(begin(8, 1, 0), take(5, 0, 0, [1]), cut(1, 2), mark(3, 1), begin(8, 1, 0)),
                         (0, [less(1, 5)]))

    def test_rows_go_from_the_lowest_on(self):
        calls = [begin(32, 1, 32), take(2, 0, 0, [20]), take(1, 0, 0, [9]), take(3, 0, 0, [2]),
                 take(1, 0, 0, [31]), give(9), begin(32, 1, 0)]
        self.assertEqual(last(*calls), (0, [less(2, 3), less(9, 1), less(20, 2), less(31, 1)]))

    def test_free_pages_alone_are_given_back(self):
        self.assertEqual(last(begin(8, 1, 8), take(3, 0, 0, [2]), give(2), begin(8, 1, 0)), (0, [less(2, 3)]))

    def test_a_mark_of_4_does_not_hold_them(self):
        self.assertEqual(last(begin(8, 1, 8), take(3, 0, 7), begin(8, 1, 0)), (0, [less(0, 3)]))

    def test_the_answers_of_less_are_not_looked_at(self):
        calls = [begin(8, 1, 8), take(1, 0, 0, [1]), take(1, 0, 0, [3])]
        for g in ([], [-1], [-1, -1], [LEAST, GREATEST, 5, 6]):
            self.assertEqual(last(*calls, begin(8, 1, 0, g)), (0, [less(1, 1), less(3, 1)]), g)

    def test_a_second_one_has_only_its_own_house_to_give_back(self):
        self.assertEqual(last(begin(8, 1, 8), take(1), begin(8, 1, 8), begin(8, 1, 8)), (0, []))


if __name__ == "__main__":
    unittest.main()
