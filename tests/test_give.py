"""give, and trimmed to spare: point 3 and what stands ahead of it."""

import unittest

from helper import GREATEST, LEAST, begin, cut, give, last, less, mark, more, take, told


class GiveTest(unittest.TestCase):
    def test_how_many_pages_it_had(self):
        for pages in (1, 2, 9):
            self.assertEqual(last(begin(16, 1, 16), take(pages, 0, 0, [3]), give(3)), (pages, []))

    def test_its_pages_are_free_and_there_is_no_run(self):
        calls = [begin(16, 1, 16), take(3, 0, 0, [3]), give(3)]
        self.assertEqual(last(*calls, give(3)), (-5, []))
        self.assertEqual(last(*calls, take(3)), (3, []))

    def test_what_is_free_is_joined(self):
        calls = [begin(16, 1, 16), take(6), cut(0, 2), cut(2, 2)]
        for order in ((0, 2, 4), (0, 4, 2), (2, 0, 4), (2, 4, 0), (4, 0, 2), (4, 2, 0)):
            given = [give(p) for p in order]
            self.assertEqual(last(*calls, *given, take(6)), (0, []), order)

    def test_only_that_run_is_free(self):
        calls = [begin(16, 1, 16), take(6), cut(0, 2), cut(2, 2), give(2)]
        self.assertEqual(told(*calls, give(0), give(4))[-2:], [(2, []), (2, [])])
        self.assertEqual(last(*calls, take(3, 0, 0, [-1])), (-7, [more(3)]))

    def test_no_run_begins_there(self):
        calls = [begin(16, 4, 16), take(3, 0, 0, [3])]
        for p in (LEAST, -1, 0, 2, 4, 5, 6, 7, 15, 16, 16384, GREATEST):
            self.assertEqual(last(*calls, give(p)), (-5, []), p)

    def test_a_mark_with_4(self):
        for value in range(8):
            wanted = (-6, []) if value >= 4 else (3, [less(3, 3)])
            self.assertEqual(last(begin(16, 1, 0), take(3, 0, value, [3]), give(3)), wanted)

    def test_no_run_there_comes_ahead_of_a_mark_with_4(self):
        self.assertEqual(last(begin(16, 1, 0), take(3, 0, 4, [3]), give(4)), (-5, []))

    def test_free_again_when_the_mark_is_changed(self):
        self.assertEqual(last(begin(16, 1, 16), take(3, 0, 4), mark(0, 3), give(0)), (3, []))


class TrimTest(unittest.TestCase):
    # Free behind these: 3 and 4; 9 to 11; 17 to 20; and a run of one page at 3.
    rows = [take(2, 1, 0, [-1, 3]), take(3, 1, 0, [-1, 9]), take(4, 3, 0, [-1, 17]), take(1)]

    def trimmed(self, spare, g=()):
        answers = told(begin(32, 1, spare), *self.rows, give(3, g), begin(32, 1, 0))
        self.assertEqual([answer[0] for answer in answers], [0, -7, -7, -7, 3, 1, 0])
        return answers[5][1], answers[6][1]

    def test_not_when_no_more_than_spare_are_free(self):
        kept = [less(3, 2), less(9, 3), less(17, 4)]
        self.assertEqual(self.trimmed(9), ([], kept))
        self.assertEqual(self.trimmed(10), ([], kept))

    def test_a_part_of_the_highest_row(self):
        self.assertEqual(self.trimmed(8), ([less(20, 1)], [less(3, 2), less(9, 3), less(17, 3)]))
        self.assertEqual(self.trimmed(6), ([less(18, 3)], [less(3, 2), less(9, 3), less(17, 1)]))

    def test_the_highest_row_whole(self):
        self.assertEqual(self.trimmed(5), ([less(17, 4)], [less(3, 2), less(9, 3)]))

    def test_a_row_and_a_part_of_one(self):
        self.assertEqual(self.trimmed(4), ([less(17, 4), less(11, 1)], [less(3, 2), less(9, 2)]))
        self.assertEqual(self.trimmed(3), ([less(17, 4), less(10, 2)], [less(3, 2), less(9, 1)]))

    def test_several_rows_and_a_part_of_one(self):
        self.assertEqual(self.trimmed(2), ([less(17, 4), less(9, 3)], [less(3, 2)]))
        self.assertEqual(self.trimmed(1), ([less(17, 4), less(9, 3), less(4, 1)], [less(3, 1)]))

    def test_all_of_it(self):
        self.assertEqual(self.trimmed(0), ([less(17, 4), less(9, 3), less(3, 2)], []))

    def test_the_answers_of_less_are_not_looked_at(self):
        for g in ([-1], [-1, -1, -1], [LEAST, GREATEST, 0, 5]):
            self.assertEqual(self.trimmed(1, g), self.trimmed(1))

    def test_taken_pages_stay_however_high_they_are(self):
        calls = [begin(32, 1, 1), take(3, 0, 0, [4]), take(2, 0, 0, [30]), give(4)]
        self.assertEqual(last(*calls), (3, [less(5, 2)]))
        self.assertEqual(last(*calls, give(30)), (2, [less(30, 2)]))

    def test_the_row_is_trimmed_as_it_is_joined(self):
        calls = [begin(32, 1, 2), take(4, 0, 0, [4]), cut(4, 2), give(4), give(6)]
        self.assertEqual(told(*calls)[-2:], [(2, []), (2, [less(6, 2)])])

    def test_trimmed_pages_are_outside(self):
        calls = [begin(32, 1, 0), take(4, 0, 0, [4]), give(4)]
        self.assertEqual(last(*calls, take(1, 0, 0, [4])), (4, [more(1)]))
        self.assertEqual(last(*calls, begin(32, 1, 0)), (0, []))


if __name__ == "__main__":
    unittest.main()
