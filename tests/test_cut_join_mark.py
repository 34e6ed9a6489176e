"""cut, join and mark: points 5 and 6."""

import unittest

from helper import GREATEST, LEAST, begin, cut, give, grow, join, last, less, mark, more, take, told

# A run of pages 4 to 8, marked 3; 9 to 11 are free.
RUN = [begin(32, 8, 32), take(5, 0, 3, [4])]


def mark_of(p, calls):
    """The mark of a run of more than one page."""
    found = [m for m in range(8) if last(*calls, cut(p, 1), mark(p, m), join(p))[0] > 0]
    return found[0] if len(found) == 1 else found


class CutTest(unittest.TestCase):
    def test_the_second_ones_first_page(self):
        for k in range(1, 5):
            self.assertEqual(last(*RUN, cut(4, k)), (4 + k, []))

    def test_two_runs_of_k_pages_and_of_the_others(self):
        for k in range(1, 5):
            self.assertEqual(told(*RUN, cut(4, k), give(4), give(4 + k))[-2:], [(k, []), (5 - k, [])])

    def test_both_have_the_same_mark(self):
        for value in range(8):
            calls = [begin(32, 8, 32), take(5, 0, value, [4]), cut(4, 2)]
            self.assertEqual((mark_of(4, calls), mark_of(6, calls)), (value, value))

    def test_a_mark_does_not_forbid_it(self):
        for value in range(8):
            self.assertEqual(last(begin(8, 1, 8), take(2, 0, value), cut(0, 1)), (1, []))

    def test_k_is_not_from_1_to_n_less_1(self):
        for k in (LEAST, -1, 0, 5, 6, 16384, 16385, GREATEST):
            self.assertEqual(last(*RUN, cut(4, k)), (-5, []), k)

    def test_a_run_of_one_page(self):
        for k in (0, 1, 2):
            self.assertEqual(last(begin(8, 1, 8), take(1), cut(0, k)), (-5, []))

    def test_no_run_begins_there(self):
        for p in (LEAST, -1, 0, 3, 5, 8, 9, 12, 32, GREATEST):
            self.assertEqual(last(*RUN, cut(p, 1)), (-5, []), p)

    def test_cut_again(self):
        self.assertEqual(told(*RUN, cut(4, 3), cut(4, 2), cut(7, 1))[-2:], [(6, []), (8, [])])


class JoinTest(unittest.TestCase):
    two = [*RUN, cut(4, 2)]

    def test_how_many_pages_it_has(self):
        self.assertEqual(last(*self.two, join(4)), (5, []))

    def test_they_are_one(self):
        self.assertEqual(last(*self.two, join(4), give(6)), (-5, []))
        self.assertEqual(last(*self.two, join(4), give(4)), (5, []))

    def test_the_mark_stays(self):
        for value in range(8):
            calls = [begin(32, 8, 32), take(5, 0, value, [4]), cut(4, 2), join(4)]
            self.assertEqual(last(*calls), (5, []))
            self.assertEqual(mark_of(4, calls), value)

    def test_runs_that_were_taken_one_by_one(self):
        self.assertEqual(last(begin(8, 1, 8), take(2), take(1, 0, 0, [2]), join(0)), (3, []))

    def test_only_the_one_right_behind_it(self):
        calls = [*RUN, cut(4, 1), cut(5, 1), join(4)]
        self.assertEqual(last(*calls), (2, []))
        self.assertEqual(told(*calls, give(6), give(4))[-2:], [(3, []), (2, [])])

    def test_no_run_begins_there(self):
        for p in (LEAST, -1, 0, 3, 5, 7, 9, 32, GREATEST):
            self.assertEqual(last(*self.two, join(p)), (-5, []), p)

    def test_none_begins_right_behind_it(self):
        self.assertEqual(last(*self.two, join(6)), (-5, []))
        self.assertEqual(last(begin(8, 1, 8), take(2, 0, 0, [6]), join(6)), (-5, []))
        self.assertEqual(last(begin(8, 1, 8), take(1), take(1, 0, 0, [2]), join(0)), (-5, []))

    def test_of_another_mark(self):
        for value in range(8):
            wanted = (5, []) if value == 3 else (-6, [])
            self.assertEqual(last(*self.two, mark(6, value), join(4)), wanted)
            self.assertEqual(last(*self.two, mark(4, value), join(4)), wanted)


class MarkTest(unittest.TestCase):
    def test_it_has_that_mark(self):
        for value in range(8):
            calls = [*RUN, mark(4, value)]
            self.assertEqual(last(*calls), (0, []))
            self.assertEqual(mark_of(4, calls), value)

    def test_every_mark_can_be_changed(self):
        for value in range(8):
            calls = [*RUN, mark(4, value), mark(4, 7 - value)]
            self.assertEqual(last(*calls), (0, []))
            self.assertEqual(mark_of(4, calls), 7 - value)

    def test_only_that_run_has_it(self):
        calls = [*RUN, cut(4, 2), mark(6, 0)]
        self.assertEqual((mark_of(4, calls), mark_of(6, calls)), (3, 0))

    def test_the_run_stays_as_long(self):
        self.assertEqual(last(*RUN, mark(4, 0), give(4)), (5, []))

    def test_out_of_range(self):
        for value in (LEAST, -1, 8, GREATEST):
            self.assertEqual(last(*RUN, mark(4, value)), (-8, []), value)
            self.assertEqual(last(*RUN, mark(5, value)), (-8, []), value)

    def test_no_run_begins_there(self):
        for p in (LEAST, -1, 0, 3, 5, 8, 9, 12, 32, GREATEST):
            for value in (0, 7):
                self.assertEqual(last(*RUN, mark(p, value)), (-5, []), p)


class AnswersCountForNothingTest(unittest.TestCase):
    def test_they_ask_nothing_whatever_stands_there(self):
        for g in ([], [-1], [5, 6, 7], [0] * 4096):
            calls = [*RUN, cut(4, 2, g), mark(4, 3, g), join(4, g), grow(4, 5)]
            self.assertEqual(told(*calls)[2:], [(6, []), (0, []), (5, []), (5, [])])

    def test_they_trim_nothing(self):
        calls = [begin(32, 8, 0), take(5, 0, 3, [4]), cut(4, 2), mark(4, 3), join(4), begin(32, 8, 0)]
        self.assertEqual(last(*calls), (0, [less(4, 8)]))
        self.assertEqual(last(*calls[:-1], take(4, 0, 0, [12])), (9, [more(8)]))


if __name__ == "__main__":
    unittest.main()
