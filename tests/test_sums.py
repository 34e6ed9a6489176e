"""sums: point 10."""

import unittest

from helper import (GREATEST, LEAST, begin, cut, get, give, grow, join, last, less, look, mark, more, place, put, runs,
                    sums, take, told, trim)


def summed(*calls):
    """The eight numbers behind the 0: the house's, free, taken; asked, refused; came, given back; the most at once."""
    answer = last(*calls, sums())
    if answer[0][0] != 0 or len(answer[0]) != 9 or answer[1]:
        raise AssertionError(f"not 0 and eight numbers: {answer}")
    return answer[0][1:]


# A run of pages 4 to 6, and 7 to 11 free.
RUN = [begin(32, 8, 32), take(3, 0, 0, [4])]
COUNTED = [8, 5, 3, 1, 0, 8, 0, 8]


class PagesTest(unittest.TestCase):
    def test_a_new_house(self):
        self.assertEqual(last(begin(8, 1, 0), sums()), ([0, 0, 0, 0, 0, 0, 0, 0, 0], []))

    def test_free_and_taken_pages_are_the_houses(self):
        self.assertEqual(summed(*RUN), COUNTED)

    def test_free_pages_in_several_rows_and_several_runs(self):
        calls = [*RUN, cut(4, 1), cut(5, 1), give(5), take(4, 0, 1, [20])]
        self.assertEqual(summed(*calls)[:3], [8, 2, 6])
        self.assertEqual(summed(*calls, take(9, 0, 0, [20]))[:3], [17, 2, 15])

    def test_the_largest_house(self):
        calls = [begin(16384, 1, 16384), take(16384)]
        self.assertEqual(summed(*calls), [16384, 0, 16384, 1, 0, 16384, 0, 16384])
        self.assertEqual(summed(*calls, give(0)), [16384, 16384, 0, 1, 0, 16384, 0, 16384])
        self.assertEqual(summed(*calls, give(0), trim(0)), [0, 0, 0, 1, 0, 16384, 16384, 16384])


class AskedTest(unittest.TestCase):
    def test_no_ask(self):
        self.assertEqual(summed(*RUN, take(5)), [8, 0, 8, 1, 0, 8, 0, 8])

    def test_each_ask_counts(self):
        self.assertEqual(summed(*RUN, take(6, 0, 0, [20])), [16, 7, 9, 2, 0, 16, 0, 16])

    def test_refused_asks_count_in_both(self):
        start = begin(64, 11, 64)
        self.assertEqual(summed(start, take(3, 3, 0, [0])), [11, 8, 3, 1, 0, 11, 0, 11])
        self.assertEqual(summed(start, take(3, 3, 0, [-1, 0])), [10, 7, 3, 2, 1, 10, 0, 10])
        self.assertEqual(summed(start, take(3, 3, 0, [-1, -1, 8])), [3, 0, 3, 3, 2, 3, 0, 3])

    def test_refused_asks_count_where_the_take_is_refused(self):
        self.assertEqual(summed(begin(64, 11, 64), take(3, 3, 0, [-1, -1, -1])), [0, 0, 0, 3, 3, 0, 0, 0])
        self.assertEqual(summed(*RUN, take(6, 0, 0, [-1, -1])), [8, 5, 3, 3, 2, 8, 0, 8])

    def test_what_came_and_did_not_fit_counts(self):
        calls = [begin(16, 1, 0), take(2, 1, 0, [-1, 3])]
        self.assertEqual(last(*calls), (-7, [more(3), more(2)]))
        self.assertEqual(summed(*calls), [2, 2, 0, 2, 1, 2, 0, 2])

    def test_each_kind_of_refusal(self):
        for answer in (-1, LEAST, 25, GREATEST, 3, 4, 6, 7, 11):
            self.assertEqual(summed(*RUN, take(8, 0, 0, [answer])), [8, 5, 3, 2, 1, 8, 0, 8], answer)

    def test_a_take_that_is_out_of_range_asks_nothing(self):
        for call in (take(0), take(16385), take(1, 11), take(1, 0, 8)):
            self.assertEqual(summed(*RUN, call), COUNTED)

    def test_less_is_no_more(self):
        calls = [begin(32, 8, 0), take(8), give(0, [-1])]
        self.assertEqual(last(*calls), (8, [less(0, 8)]))
        self.assertEqual(summed(*calls), [0, 0, 0, 1, 0, 8, 8, 8])


class GivenBackTest(unittest.TestCase):
    def test_by_give(self):
        self.assertEqual(summed(begin(32, 8, 3), take(3, 0, 0, [4]), give(4)), [3, 3, 0, 1, 0, 8, 5, 8])

    def test_by_grow(self):
        self.assertEqual(summed(begin(32, 8, 3), take(3, 0, 0, [4]), grow(4, 2)), [5, 3, 2, 1, 0, 8, 3, 8])

    def test_by_trim(self):
        self.assertEqual(summed(*RUN, trim(2)), [5, 2, 3, 1, 0, 8, 3, 8])
        self.assertEqual(summed(*RUN, trim(2), trim(0)), [3, 0, 3, 1, 0, 8, 5, 8])

    def test_over_several_rows(self):
        calls = [begin(64, 4, 64), take(1, 0, 0, [0]), take(4, 0, 0, [8]), take(8, 0, 0, [16]), give(8), give(16)]
        self.assertEqual(summed(*calls, trim(1)), [2, 1, 1, 3, 0, 16, 14, 16])

    def test_not_where_nothing_is_too_much(self):
        self.assertEqual(summed(*RUN, give(4)), [8, 8, 0, 1, 0, 8, 0, 8])
        self.assertEqual(summed(*RUN, trim(5)), COUNTED)

    def test_the_pages_come_again(self):
        calls = [begin(32, 1, 0), take(3), give(0), take(2), give(0)]
        self.assertEqual(summed(*calls), [0, 0, 0, 2, 0, 5, 5, 3])


class MostAtOnceTest(unittest.TestCase):
    def test_it_stays_when_fewer_are_there(self):
        calls = [begin(32, 1, 0), take(5), give(0)]
        self.assertEqual(summed(*calls)[-1], 5)
        self.assertEqual(summed(*calls, take(2))[-1], 5)
        self.assertEqual(summed(*calls, take(5))[-1], 5)

    def test_it_rises_when_more_are_there(self):
        calls = [begin(32, 1, 0), take(5), give(0), take(4), take(2, 0, 0, [8])]
        self.assertEqual(summed(*calls), [6, 0, 6, 3, 0, 11, 5, 6])

    def test_free_pages_count(self):
        self.assertEqual(summed(begin(32, 8, 0), take(1), give(0)), [0, 0, 0, 1, 0, 8, 8, 8])

    def test_refused_asks_do_not_count(self):
        self.assertEqual(summed(begin(32, 8, 0), take(1, 0, 0, [-1, 9]))[-1], 1)


class CallTest(unittest.TestCase):
    def test_behind_each_kind_of_call(self):
        for call, wanted in (
                (begin(32, 8, 0), [0] * 8), (begin(0, 8, 0), COUNTED),
                (take(2), [8, 3, 5, 1, 0, 8, 0, 8]), (take(6, 0, 0, [12]), [16, 7, 9, 2, 0, 16, 0, 16]),
                (give(4), [8, 8, 0, 1, 0, 8, 0, 8]), (give(5), COUNTED),
                (grow(4, 5), [8, 3, 5, 1, 0, 8, 0, 8]), (grow(4, 2), [8, 6, 2, 1, 0, 8, 0, 8]),
                (grow(4, 3), COUNTED), (grow(4, 9), COUNTED), (grow(4, 0), COUNTED),
                (cut(4, 1), COUNTED), (cut(4, 3), COUNTED), (join(4), COUNTED), (mark(4, 7), COUNTED),
                (mark(4, 8), COUNTED), (put(place(4), [1]), COUNTED), (put(0, [1]), COUNTED),
                (get(place(4), 1), COUNTED), (get(place(4), -1), COUNTED), (look(4), COUNTED), (look(-1), COUNTED),
                (runs(0, 9), COUNTED), (runs(-1, 9), COUNTED), (sums(), COUNTED),
                (trim(1), [4, 1, 3, 1, 0, 8, 4, 8]), (trim(5), COUNTED), (trim(-1), COUNTED)):
            self.assertEqual(summed(*RUN, call), wanted, call)

    def test_runs_that_are_cut_and_joined(self):
        self.assertEqual(summed(*RUN, cut(4, 1), cut(5, 1)), COUNTED)
        self.assertEqual(summed(*RUN, cut(4, 1), join(4)), COUNTED)


class SinceBeginTest(unittest.TestCase):
    busy = [begin(32, 8, 3), take(3, 0, 0, [-1, 4]), take(1, 0, 0, [20]), give(4), take(9, 0, 0, [-1])]

    def test_the_house_before(self):
        self.assertEqual(summed(*self.busy), [4, 3, 1, 4, 2, 11, 7, 11])

    def test_all_is_counted_from_begin_on(self):
        calls = [*self.busy, begin(32, 8, 3)]
        self.assertEqual(last(*calls), (0, [less(4, 3), less(20, 1)]))
        self.assertEqual(summed(*calls), [0] * 8)

    def test_counted_anew(self):
        calls = [*self.busy, begin(16, 2, 1), take(1, 0, 0, [-1, 3]), take(3, 0, 0, [5]), give(5)]
        self.assertEqual(summed(*calls), [2, 1, 1, 3, 1, 4, 2, 4])

    def test_a_begin_that_is_refused_counts_for_nothing(self):
        for call in (begin(0, 8, 3), begin(32, 1025, 3), begin(32, 8, -1)):
            self.assertEqual(summed(*self.busy, call), summed(*self.busy))


class AnswersCountForNothingTest(unittest.TestCase):
    def test_whatever_stands_there(self):
        for g in ([], [-1], [5, 6, 7], [LEAST, GREATEST], [0] * 4096):
            self.assertEqual(told(*RUN, sums(g), sums(g))[2:], 2 * [([0] + COUNTED, [])])

    def test_nothing_is_trimmed(self):
        self.assertEqual(last(begin(32, 8, 0), take(1), sums(), begin(32, 8, 0)), (0, [less(0, 8)]))


if __name__ == "__main__":
    unittest.main()
