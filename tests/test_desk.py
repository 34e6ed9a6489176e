"""The interface: how calls and answers stand in their lists, and what is left alone."""

import builtins
import contextlib
import io
import unittest
from unittest import mock

from helper import (GREATEST, LEAST, Case, begin, cut, get, give, grow, join, line, look, mark, place, put, runs, sums,
                    take, trim)
from pagehouse.desk import answers

CALLS = line([begin(16, 4, 2), take(3, 0, 0, [8]), take(2, 1, 1), put(place(9) - 2, [1, 2, 3, 4]),
              get(place(9) - 2, 4), cut(8, 1), join(8), mark(8, 2), get(place(8), 1), grow(8, 2), look(9), runs(0, 9),
              sums(), trim(1), give(8, [5, 6]), begin(0, 0, 0), take(1, 2, 0, [-1, 13]), sums([5]), begin(9, 9, 9),
              take(9), put(0, range(256)), get(0, 256)])


class FrozenList(list):
    """A list that can't be changed, not for a while either."""

    def refuse(self, *args, **kwargs):
        raise AssertionError("the list that was handed in was changed")

    append = clear = extend = insert = pop = remove = reverse = sort = refuse
    __setitem__ = __delitem__ = __iadd__ = __imul__ = refuse


class ShapeTest(Case):
    def test_every_call_by_its_number(self):
        calls = [0, 64, 4, 2, 0]
        wanted = [2, 0, 0]
        calls += [1, 3, 0, 4, 1, 8]
        wanted += [4, 1, 1, 4, 8]
        calls += [6, 8, 0, 0]
        wanted += [2, 0, 0]
        calls += [4, 8, 2, 1, -1]
        wanted += [2, 0, 10]
        calls += [5, 8, 2, 9, 9]
        wanted += [2, 0, 3]
        calls += [3, 8, 4, 0]
        wanted += [2, 0, 4]
        calls += [3, 8, 1, 1, 7]
        wanted += [5, 1, 2, 11, 1, 1]
        calls += [7, 32766, 4, 255, 0, 1, 2, 0]
        wanted += [2, 0, -5]
        calls += [7, 32768, 4, 255, 0, 1, 2, 3, 7, 8, 9]
        wanted += [2, 0, 0]
        calls += [8, 32767, 3, 0]
        wanted += [2, 0, -5]
        calls += [8, 32768, 5, 1, 4]
        wanted += [7, 0, 0, 255, 0, 1, 2, 0]
        calls += [9, 9, 0]
        wanted += [5, 0, 1, 9, 2, 0]
        calls += [10, 0, 2, 2, 5, 5]
        wanted += [5, 0, 1, 8, 1, 0]
        calls += [11, 1, 0]
        wanted += [10, 0, 0, 3, 2, 1, 1, 0, 4, 1, 4]
        calls += [12, 1, 1, -1]
        wanted += [5, 1, 2, 10, 1, 1]
        calls += [2, 8, 0]
        wanted += [2, 0, 1]
        calls += [0, 8, 1, 0, 0]
        wanted += [5, 1, 2, 8, 2, 0]
        self.assertEqual(answers(calls), wanted)

    def test_puts_and_gets_of_no_bytes(self):
        calls = line([begin(1, 1, 0), take(1)]) + [7, 5, 0, 0, 8, 5, 0, 0, 7, 5, 0, 1, 9, 8, 5, 0, 1, 9]
        self.assertEqual(answers(calls), [2, 0, 0, 4, 1, 1, 1, 0] + 4 * [2, 0, 0])

    def test_bytes_and_given_answers_are_told_apart(self):
        calls = line([begin(1, 1, 0), take(1)]) + [7, 0, 2, 3, 4, 3, 8, 0, 1, 8, 0, 3, 2, 7, 0]
        self.assertEqual(answers(calls)[8:], [2, 0, 0, 5, 0, 0, 3, 4, 0])

    def test_runs_and_looks_have_no_count_but_the_one_that_is_told(self):
        calls = line([begin(4, 1, 0), take(3), cut(0, 1), runs(0, 2), runs(1, 1), runs(2, 1), look(2), look(3),
                      trim(0)])
        self.assertEqual(answers(calls)[11:], [8, 0, 2, 0, 1, 0, 1, 2, 0, 5, 0, 2, 1, 2, 0, 2, 0, 2, 5, 0, 2, 1, 2, 0,
                                               5, 0, 0, 3, 0, 0, 2, 0, 0])

    def test_several_asks_stand_in_their_order(self):
        self.assertEqual(answers(line([begin(64, 9, 0), take(2, 1, 0, [-1, -1, 6])])),
                         [2, 0, 0, 8, 3, 1, 9, 1, 3, 1, 2, 6])
        self.assertEqual(answers(line([begin(64, 1, 0), take(1, 0, 0, [5]), take(1, 0, 0, [3]), begin(1, 1, 0)])),
                         [2, 0, 0, 4, 1, 1, 1, 5, 4, 1, 1, 1, 3, 8, 2, 2, 3, 1, 2, 5, 1, 0])

    def test_a_refused_begin_stands_like_any_other_answer(self):
        self.assertEqual(answers([0, 1, 1, 0, 0, 0, 0, 1, 0, 1, 5, 0, 1, 1, 0, 0]), [2, 0, 0, 2, 0, -8, 2, 0, 0])

    def test_one_call_alone(self):
        self.assertEqual(answers([0, 1, 1, 0, 0]), [2, 0, 0])
        self.assertEqual(answers([0, 1, 1, 0, 3, 7, 8, 9]), [2, 0, 0])

    def test_numbers_at_the_ends_of_their_kind(self):
        for number in (LEAST, GREATEST):
            calls = [begin(1, 1, 0, [number]), begin(number, number, number, [number]), take(number, number, number),
                     give(number), grow(number, number), grow(number, 1), cut(number, number), join(number),
                     mark(number, number), mark(number, 0), put(number, [255]), put(number), get(number, number),
                     get(number, 0), get(number, 4096), look(number), runs(number, number), runs(0, number),
                     trim(number), take(1, 0, 0, [number])]
            wanted = [2, 0, 0]
            for refusal in (-8, -8, -5, -8, -5, -5, -5, -8, -5, -5, -5, -8, -5, -5, -8, -8, -8, -8):
                wanted += [2, 0, refusal]
            self.assertEqual(answers(line(calls)), wanted + [4, 1, 1, 1, -7])

    def test_the_longest_list(self):
        calls = line([begin(16384, 1, 0, [5] * 4096)] + 6 * [take(1, 0, 0, [7] * 4096)])
        calls += line((100 - 8) * [take(1, 0, 0, [9])])
        calls += line([begin(1, 1, 1, [3] * (30000 - len(calls) - 5))])
        self.assertEqual(len(calls), 30000)
        told = answers(calls)
        self.assertEqual(told[:3] + told[3:8] + told[-9:], [2, 0, 0] + [4, 1, 1, 1, 7] + [8, 2, 2, 7, 1, 2, 9, 1, 0])

    def test_a_hundred_calls_on_the_largest_house(self):
        calls = [begin(16384, 1024, 16384), take(16384)]
        for step in range(49):
            calls += [cut(step * 2, 2), give(step * 2)]
        self.assertEqual(len(calls), 100)
        wanted = [2, 0, 0, 4, 1, 1, 16384, 0]
        for step in range(49):
            wanted += [2, 0, step * 2 + 2, 2, 0, 2]
        self.assertEqual(answers(line(calls)), wanted)

    def test_a_hundred_calls_and_the_most_bytes(self):
        calls = [begin(16384, 1024, 0), take(16384)]
        calls += [put(place(2000 * step, 1 + step), [step + 1] * 4096) for step in range(7)]
        calls += [get(place(2000 * (step % 7), 1 + step % 7), 4096) for step in range(91)]
        wanted = [2, 0, 0, 4, 1, 1, 16384, 0] + 7 * [2, 0, 0]
        for step in range(91):
            wanted += [4098, 0, 0] + [step % 7 + 1] * 4096
        self.assertEqual(len(calls), 100)
        self.assertLessEqual(len(line(calls)), 30000)
        self.assertEqual(answers(line(calls)), wanted)

    def test_many_pages_with_bytes_taken_again_and_again(self):
        calls = [begin(16384, 1, 16384), take(16384)]
        calls += [put(place(2000 * step), [9] * 4000) for step in range(7)]
        for unused in range(45):
            calls += [give(0), take(16384)]
        calls += [get(place(2000 * 6), 4096)]
        self.assertEqual(answers(line(calls))[-4098:], [0] * 4098)


class LeftAloneTest(Case):
    def test_what_is_handed_in_is_as_it_was(self):
        handed = list(CALLS)
        answers(handed)
        self.assertEqual(handed, CALLS)

    def test_what_is_handed_in_is_not_changed_for_a_while_either(self):
        self.assertEqual(answers(FrozenList(CALLS)), answers(CALLS))

    def test_calling_twice_gives_the_same(self):
        first = answers(CALLS)
        self.assertEqual(answers(CALLS), first)
        answers(line([begin(16384, 1, 0), take(16384, 0, 7)]))
        self.assertEqual(answers(CALLS), first)

    def test_what_was_given_back_can_be_changed(self):
        first = answers(CALLS)
        wanted = list(first)
        first.clear()
        self.assertEqual(answers(CALLS), wanted)

    def test_whole_numbers_and_lists_alone(self):
        told = answers(CALLS)
        self.assertIs(type(told), list)
        self.assertEqual({type(number) for number in told}, {int})

    def test_nothing_is_printed_read_or_imported(self):
        forbidden = mock.Mock(side_effect=AssertionError("not allowed"))
        printed = io.StringIO()
        wanted = answers(CALLS)
        with contextlib.redirect_stdout(printed), contextlib.redirect_stderr(printed):
            with mock.patch.object(builtins, "open", forbidden), mock.patch.object(builtins, "input", forbidden):
                with mock.patch.object(builtins, "__import__", forbidden):
                    told = answers(CALLS)
        self.assertEqual(told, wanted)
        self.assertEqual(printed.getvalue(), "")


if __name__ == "__main__":
    unittest.main()
