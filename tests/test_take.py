"""take, more, and taken out of what's free: point 2 and what stands ahead of it."""

import unittest

from helper import GREATEST, LEAST, Case, begin, cut, get, give, join, last, less, mark, more, place, put, take, told


class RangeTest(Case):
    def answered(self, *numbers):
        return last(begin(16384, 1, 0), take(*numbers))[0]

    def test_both_ends_are_taken(self):
        for numbers in ((1, 0, 0), (16384, 0, 0), (1, 10, 0), (1, 0, 7), (1, 10, 7)):
            self.assertEqual(self.answered(*numbers), 0, numbers)

    def test_outside_is_refused_and_nothing_is_asked(self):
        outside = [(0, 0, 0), (16385, 0, 0), (-1, 0, 0), (1, -1, 0), (1, 11, 0), (1, 0, -1), (1, 0, 8)]
        for number in (LEAST, GREATEST):
            outside += [(number, 0, 0), (1, number, 0), (1, 0, number)]
        for numbers in outside:
            self.assertEqual(last(begin(16384, 1, 0), take(*numbers)), (-8, []), numbers)

    def test_out_of_range_comes_ahead_of_no_room(self):
        self.assertEqual(last(begin(2, 1, 0), take(16384, 11, 0, [-1])), (-8, []))
        self.assertEqual(last(begin(2, 1, 0), take(16385, 0, 0, [-1])), (-8, []))
        self.assertEqual(last(begin(2, 1, 0), take(16384, 0, 0, [-1])), (-7, [more(16384)]))


class PlaceTest(Case):
    def test_the_lowest_free_place_without_an_ask(self):
        calls = [begin(64, 8, 64), take(3, 0, 0, [10]), take(5), take(1, 0, 0, [0])]
        self.assertEqual(told(*calls)[1:], [(10, [more(8)]), (13, []), (0, [more(8)])])

    def test_the_lowest_row_that_fits_not_the_closest(self):
        rows = [begin(64, 1, 64), take(6, 0, 0, [1]), take(3, 0, 0, [20]), give(20), give(1)]
        self.assertEqual(last(*rows, take(3)), (1, []))

    def test_a_row_that_is_too_short_is_passed_over(self):
        rows = [begin(64, 1, 64), take(2, 0, 0, [1]), take(3, 0, 0, [20]), give(20), give(1)]
        self.assertEqual(last(*rows, take(3)), (20, []))
        self.assertEqual(last(*rows, take(2)), (1, []))
        self.assertEqual(last(*rows, take(4, 0, 0, [30])), (30, [more(4)]))

    def test_the_first_page_is_a_multiple(self):
        free = [begin(64, 1, 64), take(10, 0, 0, [3]), give(3)]
        for e, place in ((0, 3), (1, 4), (2, 4), (3, 8)):
            self.assertEqual(last(*free, take(2, e)), (place, []), e)
        self.assertEqual(last(*free, take(5, 3)), (8, []))
        self.assertEqual(last(*free, take(6, 3, 0, [-1, -1])), (-7, [more(13), more(6)]))

    def test_page_0_is_a_multiple_of_all(self):
        self.assertEqual(last(begin(2048, 1, 64), take(1), give(0), take(1, 10)), (0, []))

    def test_2_to_the_tenth(self):
        self.assertEqual(last(begin(4096, 1, 0), take(1, 10, 0, [1])), (1024, [more(1024)]))
        self.assertEqual(last(begin(4096, 1, 0), take(2, 10, 0, [1])), (1024, [more(1025)]))
        self.assertEqual(last(begin(4096, 1, 0), take(1, 9, 0, [1])), (512, [more(512)]))

    def test_later_place_in_the_same_row(self):
        calls = [begin(64, 1, 64), take(10, 0, 0, [3]), give(3), take(2, 2), take(4, 2), take(2, 1)]
        self.assertEqual([answer[0] for answer in told(*calls)[3:]], [4, 8, 6])

    def test_pages_that_are_taken_are_not_free(self):
        self.assertEqual(last(begin(8, 1, 8), take(2), take(1, 0, 0, [-1])), (-7, [more(1)]))

    def test_pages_before_and_behind_the_run_stay_free(self):
        calls = [begin(16, 1, 16), take(6, 0, 0, [3]), give(3), take(2, 2), take(1), take(3)]
        self.assertEqual([answer[0] for answer in told(*calls)[3:]], [4, 3, 6])


class RunTest(Case):
    def test_the_run_has_n_pages(self):
        self.assertEqual(last(begin(64, 8, 0), take(3, 0, 0, [8]), give(8))[0], 3)

    def test_the_run_has_its_mark(self):
        for value in range(8):
            for other in range(8):
                calls = [begin(64, 1, 0), take(2, 0, value), cut(0, 1), mark(0, other), join(0)]
                self.assertEqual(last(*calls), (2 if value == other else -6, []))

    def test_its_bytes_are_0(self):
        calls = [begin(16, 8, 16), take(4)] + [put(place(page), [7] * 4096) for page in range(4)]
        calls += [cut(0, 1), cut(1, 2), give(1), take(2)]
        self.assertEqual(last(*calls), (1, []))
        for page, byte in enumerate([7, 0, 0, 7]):
            self.assertEqual(last(*calls, get(place(page), 4096)), ([0] + [byte] * 4096, []))


class AskTest(Case):
    def asks(self, chunk, n, e):
        return last(begin(64, chunk, 64), take(n, e, 0, [-1, -1, -1, -1]))

    def test_once(self):
        self.assertEqual(self.asks(1, 3, 0), (-7, [more(3)]))
        self.assertEqual(self.asks(3, 3, 0), (-7, [more(3)]))

    def test_twice_as_chunk_is_above_m(self):
        self.assertEqual(self.asks(4, 3, 0), (-7, [more(4), more(3)]))
        self.assertEqual(self.asks(1024, 1, 0), (-7, [more(1024), more(1)]))

    def test_twice_as_e_is_not_0(self):
        self.assertEqual(self.asks(1, 3, 1), (-7, [more(4), more(3)]))
        self.assertEqual(self.asks(4, 3, 1), (-7, [more(4), more(3)]))
        self.assertEqual(self.asks(10, 3, 3), (-7, [more(10), more(3)]))

    def test_three_times(self):
        self.assertEqual(self.asks(5, 3, 1), (-7, [more(5), more(4), more(3)]))
        self.assertEqual(self.asks(11, 3, 3), (-7, [more(11), more(10), more(3)]))
        self.assertEqual(self.asks(1024, 1, 9), (-7, [more(1024), more(512), more(1)]))

    def test_no_ask_behind_one_that_was_not_refused(self):
        start = begin(64, 11, 64)
        self.assertEqual(last(start, take(3, 3, 0, [0, 20, 40])), (0, [more(11)]))
        self.assertEqual(last(start, take(3, 3, 0, [-1, 20, 40])), (24, [more(11), more(10)]))
        self.assertEqual(last(start, take(3, 3, 0, [-1, -1, 40])), (40, [more(11), more(10), more(3)]))
        self.assertEqual(last(begin(64, 4, 64), take(3, 0, 0, [-1, 41])), (41, [more(4), more(3)]))

    def test_more_than_the_size_is_asked_all_the_same(self):
        self.assertEqual(last(begin(4, 1, 0), take(4, 1, 0, [0, 0])), (0, [more(5), more(4)]))
        self.assertEqual(last(begin(4, 9, 0), take(4, 0, 0, [0, 0])), (0, [more(9), more(4)]))
        self.assertEqual(last(begin(4, 1, 0), take(5, 0, 0, [0])), (-7, [more(5)]))
        self.assertEqual(last(begin(4, 1, 0), take(16384, 10)), (-7, [more(17407), more(16384)]))

    def test_free_pages_that_do_not_fit_do_not_make_the_ask_smaller(self):
        calls = [begin(64, 1, 64), take(2), give(0), take(3, 0, 0, [2])]
        self.assertEqual(last(*calls), (0, [more(3)]))


class RefusedMoreTest(Case):
    # Page 8 free, 9 taken, 10 free.
    house = [begin(16, 1, 16), take(3, 0, 0, [8]), cut(8, 1), cut(9, 1), give(8), give(10)]

    def test_below_0(self):
        for answer in (-1, -2, LEAST):
            self.assertEqual(last(*self.house, take(2, 0, 0, [answer])), (-7, [more(2)]))

    def test_beyond_the_size(self):
        for answer in (15, 16, 17, GREATEST):
            self.assertEqual(last(*self.house, take(2, 0, 0, [answer])), (-7, [more(2)]))
        self.assertEqual(last(*self.house, take(2, 0, 0, [14])), (14, [more(2)]))

    def test_pages_that_are_the_houses_already(self):
        for answer in (7, 8, 9, 10):
            self.assertEqual(last(*self.house, take(2, 0, 0, [answer])), (-7, [more(2)]), answer)
        self.assertEqual(last(*self.house, take(5, 0, 0, [7])), (-7, [more(5)]))
        self.assertEqual(last(*self.house, take(6, 0, 0, [3])), (-7, [more(6)]))
        self.assertEqual(last(*self.house, take(5, 0, 0, [10])), (-7, [more(5)]))

    def test_touching_is_no_refusal(self):
        self.assertEqual(last(*self.house, take(2, 0, 0, [11])), (10, [more(2)]))
        self.assertEqual(last(*self.house, take(2, 0, 0, [6])), (6, [more(2)]))

    def test_a_refused_ask_brings_nothing(self):
        calls = [*self.house, take(2, 0, 0, [7]), take(2, 0, 0, [15]), take(2, 0, 0, [-1]), begin(1, 1, 0)]
        self.assertEqual(last(*calls), (0, [less(8, 3)]))

    def test_0_is_no_refusal_by_itself(self):
        self.assertEqual(last(begin(16, 1, 0), take(1, 0, 0, [0])), (0, [more(1)]))

    def test_pages_that_were_given_back_can_come_again(self):
        self.assertEqual(last(begin(16, 1, 0), take(2), give(0), take(3, 0, 0, [1])), (1, [more(3)]))


class JoinedTest(Case):
    def test_what_comes_is_one_row_with_the_free_page_ahead(self):
        calls = [begin(16, 1, 16), take(1, 0, 0, [4]), give(4), take(3, 0, 0, [5])]
        self.assertEqual(last(*calls), (4, [more(3)]))
        self.assertEqual(last(*calls, take(1)), (7, []))

    def test_what_comes_is_one_row_with_the_free_page_behind(self):
        calls = [begin(16, 1, 16), take(1, 0, 0, [5]), give(5), take(2, 1, 0, [-1, 3])]
        self.assertEqual(last(*calls), (4, [more(3), more(2)]))

    def test_what_comes_joins_the_rows_on_both_sides(self):
        free = [begin(32, 1, 32), take(1, 0, 0, [8]), take(5, 0, 0, [11]), give(8), give(11)]
        self.assertEqual(last(*free, take(6, 3, 0, [-1, -1])), (-7, [more(13), more(6)]))
        came = [*free, take(2, 4, 0, [-1, 9])]
        self.assertEqual(last(*came), (-7, [more(17), more(2)]))
        self.assertEqual(last(*came, take(8, 3)), (8, []))


class NoRoomTest(Case):
    came = [begin(16, 1, 0), take(2, 1, 0, [-1, 3])]

    def test_what_came_does_not_fit(self):
        self.assertEqual(last(*self.came), (-7, [more(3), more(2)]))

    def test_what_came_is_free(self):
        self.assertEqual(last(*self.came, take(2)), (3, []))

    def test_what_came_is_not_trimmed(self):
        self.assertEqual(last(*self.came, begin(16, 1, 0)), (0, [less(3, 2)]))

    def test_no_run_is_there(self):
        for page in range(16):
            self.assertEqual(last(*self.came, give(page)), (-5, []))

    def test_a_take_never_trims(self):
        self.assertEqual(last(begin(16, 8, 0), take(1), take(1), begin(16, 1, 0)), (0, [less(0, 8)]))


class AnswersTest(Case):
    def test_none_stand_there(self):
        self.assertEqual(last(begin(16, 4, 0), take(1, 0, 0, [])), (0, [more(4)]))

    def test_too_few_stand_there(self):
        self.assertEqual(last(begin(16, 4, 0), take(1, 0, 0, [-1])), (0, [more(4), more(1)]))
        self.assertEqual(last(begin(16, 8, 0), take(1, 1, 0, [-1, -1])), (0, [more(8), more(2), more(1)]))

    def test_further_asks_are_answered_0_where_page_0_is_taken(self):
        calls = [begin(16, 4, 0), take(4), take(1, 1, 0, [9, 1, 2])]
        self.assertEqual(last(*calls[:2], take(1, 1, 0, [-1])), (-7, [more(4), more(2), more(1)]))
        self.assertEqual(last(*calls), (10, [more(4)]))

    def test_too_many_stand_there(self):
        self.assertEqual(last(begin(16, 4, 0), take(1, 0, 0, [5, 9, 10])), (5, [more(4)]))

    def test_those_left_over_are_not_kept(self):
        calls = [begin(16, 1, 0, [11]), take(1, 0, 0, [5, 9]), take(1), take(1, 0, 0, [7, 8])]
        self.assertEqual(told(*calls)[1:], [(5, [more(1)]), (0, [more(1)]), (7, [more(1)])])


if __name__ == "__main__":
    unittest.main()
