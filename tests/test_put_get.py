"""put and get: point 7, and what the document says of bytes elsewhere."""

import unittest

from helper import (GREATEST, LEAST, Case, begin, cut, get, give, grow, join, last, less, mark, more, place, put, take,
                    told, trim)

# A run of pages 4 to 6; 7 is free; all else is outside.
RUN = [begin(32, 4, 32), take(3, 0, 0, [4])]

# Every byte differs from those near it, and from 0.
WAVE = [1 + byte % 255 for byte in range(4096)]


def got(*calls):
    """The bytes that a get, the last of these calls, tells."""
    answer = last(*calls)
    if not isinstance(answer[0], list) or answer[0][0] != 0 or answer[1]:
        raise AssertionError(f"no bytes: {answer}")
    return answer[0][1:]


def page_of(page, *calls):
    return got(*calls, get(place(page), 4096))


def with_bytes(content, at):
    """A page's bytes, if so much stands in it and all else is 0."""
    return [0] * at + content + [0] * (4096 - at - len(content))


class StandTest(Case):
    def test_the_answer_is_0(self):
        self.assertEqual(last(*RUN, put(place(4), [1, 2, 3])), (0, []))

    def test_the_bytes_stand_from_the_place_on(self):
        calls = [*RUN, put(place(4, 10), [1, 2, 3])]
        self.assertEqual(last(*calls, get(place(4, 10), 3)), ([0, 1, 2, 3], []))
        self.assertEqual(last(*calls, get(place(4, 9), 5)), ([0, 0, 1, 2, 3, 0], []))
        self.assertEqual(last(*calls, get(place(4, 11), 1)), ([0, 2], []))

    def test_all_else_is_as_it_was(self):
        calls = [*RUN, put(place(5, 10), [1, 2, 3])]
        self.assertEqual(page_of(4, *calls), [0] * 4096)
        self.assertEqual(page_of(5, *calls), with_bytes([1, 2, 3], 10))
        self.assertEqual(page_of(6, *calls), [0] * 4096)

    def test_each_byte_from_0_to_255(self):
        content = list(range(256))
        self.assertEqual(got(*RUN, put(place(4), content), get(place(4), 256)), content)
        self.assertEqual(got(*RUN, put(place(4), [255, 0, 255, 0]), get(place(4), 4)), [255, 0, 255, 0])

    def test_a_later_put_stands_in_the_place_of_an_earlier_one(self):
        calls = [*RUN, put(place(4), [1, 2, 3, 4]), put(place(4, 1), [0, 9])]
        self.assertEqual(got(*calls, get(place(4), 5)), [1, 0, 9, 4, 0])

    def test_getting_changes_nothing(self):
        calls = [*RUN, put(place(4), WAVE), get(place(4), 4096), get(place(4), 4096)]
        self.assertEqual(got(*calls), WAVE)

    def test_a_place_is_4096_times_the_page_and_where_it_is_in_it(self):
        for page, byte, at in ((4, 0, 16384), (4, 4095, 20479), (5, 0, 20480), (6, 4095, 28671)):
            self.assertEqual(page_of(page, *RUN, put(at, [7])), with_bytes([7], byte))

    def test_page_0(self):
        self.assertEqual(got(begin(2, 1, 0), take(1), put(0, [5, 6]), get(0, 3)), [5, 6, 0])

    def test_every_page_has_its_own_bytes(self):
        calls = [*RUN] + [put(place(page), [page] * 4096) for page in (4, 5, 6)]
        for page in (4, 5, 6):
            self.assertEqual(page_of(page, *calls), [page] * 4096)

    def test_two_houses_share_nothing(self):
        last(*RUN, put(place(4), WAVE))
        self.assertEqual(page_of(4, *RUN), [0] * 4096)


class NoBytesTest(Case):
    def test_in_a_run(self):
        for at in (place(4), place(4, 4095), place(5), place(6, 4095)):
            self.assertEqual(last(*RUN, put(at)), (0, []), at)
            self.assertEqual(last(*RUN, get(at, 0)), ([0], []), at)

    def test_not_in_a_run(self):
        for at in (place(4) - 1, place(7), place(7, 4095), place(8), 0, -1, LEAST, place(32), GREATEST):
            self.assertEqual(last(*RUN, put(at)), (-5, []), at)
            self.assertEqual(last(*RUN, get(at, 0)), (-5, []), at)

    def test_where_two_runs_touch(self):
        calls = [*RUN, cut(4, 1), mark(5, 2)]
        self.assertEqual(told(*calls, put(place(5) - 1), get(place(5) - 1, 0))[-2:], [(0, []), ([0], [])])
        self.assertEqual(told(*calls, put(place(5)), get(place(5), 0))[-2:], [(-6, []), (-6, [])])

    def test_nothing_is_changed(self):
        self.assertEqual(page_of(4, *RUN, put(place(4), WAVE), put(place(4, 5))), WAVE)

    def test_a_mark_stands_against_it_all_the_same(self):
        self.assertEqual(last(*RUN, mark(4, 1), put(place(4))), (-6, []))
        self.assertEqual(last(*RUN, mark(4, 1), get(place(4), 0)), ([0], []))
        self.assertEqual(last(*RUN, mark(4, 2), get(place(4), 0)), (-6, []))


class ManyBytesTest(Case):
    def test_a_whole_page(self):
        calls = [*RUN, put(place(5), WAVE)]
        self.assertEqual(last(*calls), (0, []))
        self.assertEqual(page_of(4, *calls) + page_of(5, *calls) + page_of(6, *calls), [0] * 4096 + WAVE + [0] * 4096)

    def test_4096_bytes_over_the_border_of_two_pages(self):
        for byte in (1, 2048, 4095):
            calls = [*RUN, put(place(4, byte), WAVE)]
            self.assertEqual(last(*calls), (0, []))
            self.assertEqual(got(*calls, get(place(4, byte), 4096)), WAVE)
            self.assertEqual(page_of(4, *calls) + page_of(5, *calls), [0] * byte + WAVE + [0] * (4096 - byte))

    def test_a_few_bytes_over_the_border_of_two_pages(self):
        calls = [*RUN, put(place(5) - 2, [1, 2, 3, 4])]
        self.assertEqual(got(*calls, get(place(5) - 3, 6)), [0, 1, 2, 3, 4, 0])
        self.assertEqual(page_of(4, *calls), with_bytes([1, 2], 4094))
        self.assertEqual(page_of(5, *calls), with_bytes([3, 4], 0))

    def test_up_to_the_runs_last_byte(self):
        end = place(7)
        for n in (1, 2, 4095, 4096):
            calls = [*RUN, put(end - n, WAVE[:n])]
            self.assertEqual(last(*calls), (0, []))
            self.assertEqual(got(*calls, get(end - n, n)), WAVE[:n])


class NotInOneRunTest(Case):
    def assert_not_in_one(self, calls, at, n):
        self.assertEqual(last(*calls, put(at, [1] * n)), (-5, []), (at, n))
        self.assertEqual(last(*calls, get(at, n)), (-5, []), (at, n))

    def test_one_beyond_the_runs_last_byte(self):
        full = [begin(7, 1, 0), take(3, 0, 0, [4])]
        outside = [begin(32, 1, 0), take(3, 0, 0, [4])]
        for calls in (RUN, full, outside):
            for n in (1, 2, 4095, 4096):
                self.assert_not_in_one(calls, place(7) - n + 1, n)

    def test_one_ahead_of_the_runs_first_byte(self):
        for n in (1, 2, 4096):
            self.assert_not_in_one(RUN, place(4) - 1, n)

    def test_over_the_border_of_two_runs_that_touch(self):
        calls = [*RUN, cut(4, 2)]
        for n in (2, 4095, 4096):
            self.assert_not_in_one(calls, place(6) - 1, n)
            self.assert_not_in_one(calls, place(6) - n + 1, n)

    def test_up_to_the_border_of_two_runs_that_touch(self):
        calls = [*RUN, cut(4, 2), put(place(6) - 3, [1, 2, 3]), put(place(6), [4, 5])]
        self.assertEqual(got(*calls, get(place(6) - 4, 4)), [0, 1, 2, 3])
        self.assertEqual(got(*calls, get(place(6), 3)), [4, 5, 0])

    def test_two_runs_with_a_free_page_between(self):
        calls = [*RUN, cut(4, 1), cut(5, 1), give(5)]
        self.assert_not_in_one(calls, place(4, 1), 4096)
        self.assert_not_in_one(calls, place(5, 1), 4096)
        self.assert_not_in_one(calls, place(5), 4096)

    def test_free_and_outside_pages(self):
        for at in (place(7), place(7, 4095), place(8), place(3), 0, place(31, 4095), place(32), place(16384)):
            self.assert_not_in_one(RUN, at, 1)

    def test_places_below_0(self):
        calls = [begin(4, 1, 0), take(4)]
        for at in (-1, -2, -4095, -4096, -4097, -16384, LEAST):
            for n in (0, 1, 2, 4096):
                self.assert_not_in_one(calls, at, n)

    def test_the_greatest_place(self):
        calls = [begin(16384, 1, 0), take(16384)]
        for n in (0, 1, 4096):
            self.assert_not_in_one(calls, GREATEST, n)

    def test_the_last_place_of_the_largest_house(self):
        calls = [begin(16384, 1, 0), take(16384)]
        self.assertEqual(got(*calls, put(67108863, [9]), get(67108862, 2)), [0, 9])
        self.assertEqual(got(*calls, put(67108864 - 4096, WAVE), get(67108864 - 4096, 4096)), WAVE)
        for n in (0, 1, 2):
            self.assert_not_in_one(calls, 67108864, n)
        self.assert_not_in_one(calls, 67108863, 2)

    def test_a_put_that_is_refused_puts_nothing(self):
        for at in (place(7) - 2, place(4) - 2):
            calls = [*RUN, put(at, [1, 2, 3, 4])]
            self.assertEqual(page_of(6, *calls) + page_of(4, *calls), [0] * 8192)
        calls = [*RUN, cut(4, 2), put(place(6) - 2, [1, 2, 3, 4])]
        self.assertEqual(page_of(5, *calls) + page_of(6, *calls), [0] * 8192)


class MarkTest(Case):
    def test_put(self):
        for value in range(8):
            wanted = 0 if value in (0, 4) else -6
            calls = [*RUN, put(place(4), [1]), mark(4, value), put(place(4), [2]), mark(4, 0)]
            self.assertEqual(told(*calls)[-2], (wanted, []), value)
            self.assertEqual(got(*calls, get(place(4), 1)), [2] if wanted == 0 else [1], value)

    def test_get(self):
        for value in range(8):
            wanted = [0, 3] if value in (0, 1, 4, 5) else -6
            self.assertEqual(last(*RUN, put(place(5), [3]), mark(4, value), get(place(5), 1)), (wanted, []), value)

    def test_the_mark_that_it_was_taken_with(self):
        calls = [begin(8, 1, 0), take(1, 0, 1), put(0, [1]), get(0, 1)]
        self.assertEqual(told(*calls)[-2:], [(-6, []), ([0, 0], [])])
        calls = [begin(8, 1, 0), take(1, 0, 2), put(0, [1]), get(0, 1)]
        self.assertEqual(told(*calls)[-2:], [(-6, []), (-6, [])])

    def test_the_mark_of_the_run_that_they_are_in(self):
        calls = [*RUN, cut(4, 1), cut(5, 1), mark(5, 3)]
        for page, put_answer, get_answer in ((4, 0, [0, 1]), (5, -6, -6), (6, 0, [0, 1])):
            self.assertEqual(told(*calls, put(place(page), [1]), get(place(page), 1))[-2:],
                             [(put_answer, []), (get_answer, [])])

    def test_not_in_one_run_comes_ahead_of_the_mark(self):
        calls = [*RUN, mark(4, 7)]
        self.assertEqual(last(*calls, put(place(7) - 1, [1, 2])), (-5, []))
        self.assertEqual(last(*calls, get(place(7) - 1, 2)), (-5, []))
        calls = [*RUN, mark(4, 7), cut(4, 1)]
        self.assertEqual(last(*calls, put(place(5) - 1, [1, 2])), (-5, []))
        self.assertEqual(last(*calls, get(place(5) - 1, 2)), (-5, []))

    def test_4_alone_stands_against_neither(self):
        self.assertEqual(got(begin(8, 1, 0), take(1, 0, 4), put(5, [8]), get(4, 3)), [0, 8, 0])


class RangeTest(Case):
    def test_both_ends(self):
        self.assertEqual(last(*RUN, get(place(4), 0)), ([0], []))
        self.assertEqual(last(*RUN, get(place(4), 4096)), ([0] + [0] * 4096, []))

    def test_outside(self):
        for n in (LEAST, -1, 4097, 8192, GREATEST):
            self.assertEqual(last(*RUN, get(place(4), n)), (-8, []), n)

    def test_out_of_range_comes_ahead_of_all_else(self):
        for n in (-1, 4097):
            for at in (LEAST, -1, 0, place(7), place(32), GREATEST):
                self.assertEqual(last(*RUN, get(at, n)), (-8, []))
            self.assertEqual(last(*RUN, mark(4, 2), get(place(4), n)), (-8, []))

    def test_put_is_never_out_of_range(self):
        for at in (LEAST, -1, 0, place(32), GREATEST):
            for n in (0, 1, 4096):
                self.assertEqual(last(*RUN, put(at, [255] * n)), (-5, []))
        self.assertEqual(last(*RUN, put(place(4), [255] * 4096)), (0, []))


class ZeroTest(Case):
    """Of pages that are taken, or grown into, the bytes are 0; all others stay."""

    written = [*RUN] + [put(place(page), WAVE) for page in (4, 5, 6)]

    def test_new_pages(self):
        for page in (4, 5, 6):
            self.assertEqual(page_of(page, *RUN), [0] * 4096)

    def test_given_up_and_taken_anew(self):
        calls = [*self.written, give(4), take(3)]
        self.assertEqual(last(*calls), (4, []))
        for page in (4, 5, 6):
            self.assertEqual(page_of(page, *calls), [0] * 4096)

    def test_a_part_given_up_and_taken_anew(self):
        calls = [*self.written, cut(4, 1), cut(5, 1), give(5), take(1)]
        self.assertEqual(last(*calls), (5, []))
        self.assertEqual([page_of(page, *calls) for page in (4, 5, 6)], [WAVE, [0] * 4096, WAVE])

    def test_given_up_and_taken_in_two_runs(self):
        calls = [*self.written, give(4), take(1), take(2)]
        self.assertEqual([page_of(page, *calls) for page in (4, 5, 6)], 3 * [[0] * 4096])

    def test_given_back_and_come_again(self):
        calls = [begin(8, 1, 0), take(1, 0, 0, [3]), put(place(3), WAVE), give(3), take(1, 0, 0, [3])]
        self.assertEqual(told(*calls)[-2:], [(1, [less(3, 1)]), (3, [more(1)])])
        self.assertEqual(page_of(3, *calls), [0] * 4096)

    def test_given_back_by_trim_and_come_again(self):
        calls = [*self.written, give(4), trim(0), take(3, 0, 0, [4])]
        self.assertEqual(told(*calls)[-2:], [(4, [less(4, 4)]), (4, [more(4)])])
        self.assertEqual([page_of(page, *calls) for page in (4, 5, 6)], 3 * [[0] * 4096])

    def test_made_shorter_and_longer_again(self):
        calls = [*self.written, grow(4, 1), grow(4, 3)]
        self.assertEqual([page_of(page, *calls) for page in (4, 5, 6)], [WAVE, [0] * 4096, [0] * 4096])

    def test_grown_into_the_pages_of_another_run(self):
        calls = [*self.written, cut(4, 1), give(5), grow(4, 2)]
        self.assertEqual([page_of(page, *calls) for page in (4, 5)], [WAVE, [0] * 4096])

    def test_grown_into_a_page_that_was_never_taken(self):
        calls = [*self.written, grow(4, 4)]
        self.assertEqual([page_of(page, *calls) for page in (4, 5, 6, 7)], [WAVE, WAVE, WAVE, [0] * 4096])

    def test_made_shorter_and_taken_anew(self):
        calls = [*self.written, grow(4, 2), take(1)]
        self.assertEqual(last(*calls), (6, []))
        self.assertEqual([page_of(page, *calls) for page in (4, 5, 6)], [WAVE, WAVE, [0] * 4096])

    def test_behind_another_begin(self):
        calls = [*self.written, begin(32, 4, 32), take(3, 0, 0, [4])]
        self.assertEqual([page_of(page, *calls) for page in (4, 5, 6)], 3 * [[0] * 4096])

    def test_put_into_pages_that_were_taken_anew(self):
        calls = [*self.written, give(4), take(3), put(place(5, 7), [8])]
        self.assertEqual([page_of(page, *calls) for page in (4, 5, 6)],
                         [[0] * 4096, with_bytes([8], 7), [0] * 4096])


class StayTest(Case):
    """What's put into pages stays there till they're given up."""

    written = [*RUN, put(place(4, 4000), WAVE), put(place(6) - 2, [1, 2, 3, 4])]

    def content(self, *calls):
        return [page_of(page, *calls) for page in (4, 5, 6)]

    def assert_stays(self, *calls):
        self.assertEqual(self.content(*self.written, *calls), self.content(*self.written), calls)

    def test_behind_every_kind_of_call(self):
        self.assertEqual(self.content(*self.written)[0], with_bytes(WAVE[:96], 4000))
        for calls in ([mark(4, 7), mark(4, 0)], [mark(4, 1)], [take(1)], [take(5, 0, 0, [20])], [take(1), give(7)],
                      [take(9, 0, 0, [-1, -1])], [grow(4, 4)], [grow(4, 4), grow(4, 3)], [grow(4, 3)], [grow(4, 9)],
                      [trim(0)], [cut(4, 1)], [cut(4, 2)], [cut(4, 1), cut(5, 1), join(4), join(4)],
                      [begin(0, 1, 0)], [give(5)], [mark(4, 4), give(4), grow(4, 1)], [get(place(4), 4096)],
                      [put(place(7) - 1, [9, 9])], [put(place(4) - 1, [9, 9])]):
            self.assert_stays(*calls)

    def test_where_the_mark_allows_no_getting_for_a_while(self):
        calls = [*self.written, mark(4, 2)]
        self.assertEqual(last(*calls, get(place(4), 1)), (-6, []))
        self.assert_stays(mark(4, 2), mark(4, 0))

    def test_a_run_is_cut_and_its_two_parts_are_got(self):
        calls = [*self.written, cut(4, 2)]
        self.assertEqual(got(*calls, get(place(6) - 3, 3)), [self.content(*self.written)[1][-3], 1, 2])
        self.assertEqual(got(*calls, get(place(6), 3)), [3, 4, 0])
        self.assertEqual(last(*calls, get(place(6) - 2, 4)), (-5, []))

    def test_two_runs_are_joined_and_got_over_the_old_border(self):
        calls = [begin(8, 1, 0), take(1), take(1, 0, 0, [1]), put(4094, [1, 2]), put(4096, [3, 4])]
        self.assertEqual(last(*calls, get(4094, 4)), (-5, []))
        self.assertEqual(got(*calls, join(0), get(4093, 6)), [0, 1, 2, 3, 4, 0])
        self.assertEqual(got(*calls, join(0), put(4095, [8, 9]), get(4094, 4)), [1, 8, 9, 4])

    def test_two_runs_are_put_into_cut_apart(self):
        calls = [*self.written, cut(4, 2), put(place(6), [7]), put(place(6) - 1, [6])]
        self.assertEqual(got(*calls, join(4), get(place(6) - 2, 4)), [1, 6, 7, 4])

    def test_one_part_is_given_up_and_the_other_stays(self):
        whole = self.content(*self.written)
        self.assertEqual(page_of(6, *self.written, cut(4, 2), give(4)), whole[2])
        calls = [*self.written, cut(4, 2), give(6)]
        self.assertEqual([page_of(page, *calls) for page in (4, 5)], whole[:2])

    def test_pages_that_were_given_up_are_not_got(self):
        calls = [*self.written, give(4)]
        self.assertEqual(last(*calls, get(place(4), 1)), (-5, []))
        self.assertEqual(last(*calls, put(place(4), [1])), (-5, []))
        self.assertEqual(last(*self.written, grow(4, 2), get(place(6), 1)), (-5, []))


class AnswersCountForNothingTest(Case):
    def test_they_ask_nothing_whatever_stands_there(self):
        for g in ([], [-1], [5, 6, 7], [LEAST, GREATEST], [0] * 4096):
            calls = [*RUN, put(place(4), [1, 2], g), get(place(4), 3, g), put(0, [1], g), get(0, 1, g)]
            self.assertEqual(told(*calls)[2:], [(0, []), ([0, 1, 2, 0], []), (-5, []), (-5, [])])

    def test_they_trim_nothing(self):
        calls = [begin(32, 4, 0), take(3, 0, 0, [4]), put(place(4), [1]), get(place(4), 1), begin(32, 4, 0)]
        self.assertEqual(last(*calls), (0, [less(4, 4)]))


if __name__ == "__main__":
    unittest.main()
