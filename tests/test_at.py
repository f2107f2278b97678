"""at: the version that holds at a time, and what is refused."""

import unittest

from tests.calls import (BIGGEST, ask, at, begin, changes, counts, last, left, left_mark, lefts, right, right_mark,
                         rights)

FIRST = begin(3, 0, 0, 0)
OTHERS = (begin(0, 0, 0, 0), begin(1, 0, 0, 0), begin(1, 0, 0, 1), begin(2, 0, 0, 0), begin(2, 10, 10, 1))


class Refusals(unittest.TestCase):
    def test_the_sort_is_not_3(self):
        self.assertEqual(ask(at(1, 5)), [[-4]])
        for first in OTHERS:
            self.assertEqual(last(first, at(1, 5)), [-4])
            self.assertEqual(last(first, right(1, 5), at(1, 5)), [-4])
            self.assertEqual(last(FIRST, right(1, 5), first, at(1, 5)), [-4])
            self.assertEqual(last(first, FIRST, right(1, 5), at(1, 5)), [1, 5])

    def test_a_refused_begin_does_not_change_the_sort(self):
        self.assertEqual(last(FIRST, right(1, 5), begin(0, 0, 0, 1), at(1, 5)), [1, 5])
        self.assertEqual(last(begin(2, 0, 0, 0), right(1, 5), begin(3, 0, 1, 0), at(1, 5)), [-4])

    def test_the_time_is_above_1000000(self):
        calls = (FIRST, right(1, 5))
        self.assertEqual(last(*calls, at(1, 1000000)), [1, 5])
        for time in (1000001, 1000002, BIGGEST):
            self.assertEqual(last(FIRST, at(1, time)), [-2])
            self.assertEqual(last(*calls, at(1, time)), [-2])

    def test_the_time_is_below_the_left_mark(self):
        calls = (FIRST, right(1, 5))
        for mark in (1, 6, 50, 1000000):
            self.assertEqual(last(*calls, left_mark(mark), at(1, mark - 1)), [-5])
            self.assertEqual(last(*calls, left_mark(mark), at(2, 0)), [-5])
            self.assertEqual(last(*calls, left_mark(mark), at(2, mark)), [0])
        for mark in (6, 50, 1000000):
            self.assertEqual(last(*calls, left_mark(mark), at(1, mark)), [1, 5])
        self.assertEqual(last(*calls, left_mark(1000001), at(1, 1000000)), [-5])

    def test_also_when_a_version_is_kept_for_a_row_that_waits(self):
        got = ask(FIRST, right(1, 5), left(1, 8), left_mark(1000001), rights(), at(1, 8), right_mark(9))
        self.assertEqual(got[4:], [[1, 1, 1, 5, 0], [-5], changes((1, 1, 1))])

    def test_the_right_mark_refuses_nothing(self):
        got = ask(FIRST, right(1, 5), right_mark(1000001), at(1, 5), at(1, 4), at(1, 0), at(1, 1000000))
        self.assertEqual(got[3:], [[1, 5], [0], [0], [1, 5]])

    def test_the_one_told_first(self):
        for first in OTHERS:
            self.assertEqual(last(first, at(1, 1000001)), [-4])
            self.assertEqual(last(first, left_mark(50), at(1, 49)), [-4])
            self.assertEqual(last(first, left_mark(1000001), at(1, 1000001)), [-4])
        # No time is above 1000000 and below a mark: each is refused by its own reason at the highest mark.
        got = ask(FIRST, left_mark(1000001), at(1, 1000000), at(1, 1000001), at(1, BIGGEST))
        self.assertEqual(got[2:], [[-5], [-2], [-2]])


class WhatHolds(unittest.TestCase):
    def test_none(self):
        self.assertEqual(last(FIRST, at(1, 0)), [0])
        self.assertEqual(last(FIRST, right(1, 6), at(1, 5)), [0])
        self.assertEqual(last(FIRST, left(1, 5), at(1, 5)), [0])

    def test_from_its_time_on_with_its_number_and_time(self):
        for time in (0, 5, 999999):
            calls = (FIRST, right(9, 1), right(1, time))
            self.assertEqual(last(*calls, at(1, time)), [2, time])
            self.assertEqual(last(*calls, at(1, time + 1)), [2, time])
            self.assertEqual(last(*calls, at(1, 1000000)), [2, time])
        self.assertEqual(last(FIRST, right(1, 5), at(1, 4)), [0])
        self.assertEqual(last(FIRST, right(1, 1000000), at(1, 1000000)), [1, 1000000])
        self.assertEqual(last(FIRST, right(1, 1000000), at(1, 999999)), [0])

    def test_the_newest_that_is_not_later(self):
        calls = (FIRST, right(1, 30), right(1, 10), right(2, 25), right(1, 20))
        for time, answer in ((9, [0]), (10, [2, 10]), (19, [2, 10]), (20, [4, 20]), (25, [4, 20]), (29, [4, 20]),
                             (30, [1, 30]), (31, [1, 30])):
            self.assertEqual(last(*calls, at(1, time)), answer)
            self.assertEqual(last(*calls, left_mark(time), at(1, time)), answer)

    def test_of_the_same_time_the_greater_number(self):
        calls = (FIRST, right(1, 10), right(1, 10), right(2, 10), right(1, 5))
        for time, answer in ((4, [0]), (5, [4, 5]), (9, [4, 5]), (10, [2, 10]), (11, [2, 10])):
            self.assertEqual(last(*calls, at(1, time)), answer)

    def test_keys(self):
        calls = (FIRST, right(1, 10), right(BIGGEST, 12), right(0, 14))
        for key, answer in ((0, [3, 14]), (1, [1, 10]), (2, [0]), (10, [0]), (BIGGEST - 1, [0]), (BIGGEST, [2, 12])):
            self.assertEqual(last(*calls, at(key, 20)), answer)

    def test_by_the_versions_that_have_come(self):
        got = ask(FIRST, at(1, 20), right(1, 5), at(1, 20), right(1, 15), at(1, 20), right(1, 10), at(1, 20),
                  at(1, 12), right(1, 20), at(1, 20), right(1, 21), at(1, 20))
        self.assertEqual([got[place] for place in (1, 3, 5, 7, 8, 10, 12)],
                         [[0], [1, 5], [2, 15], [2, 15], [3, 10], [4, 20], [4, 20]])

    def test_a_version_put_aside_or_refused_never_holds(self):
        got = ask(FIRST, right_mark(10), right(1, 9), right(1, 1000001), at(1, 20), at(1, 1000000), right(1, 10),
                  at(1, 20))
        self.assertEqual(got[2:], [[0, 0], [-2], [0], [0], [1, 0], [1, 10]])

    def test_versions_of_before_a_begin_do_not_hold(self):
        self.assertEqual(last(FIRST, right(1, 5), FIRST, at(1, 5)), [0])


class ItChangesNothing(unittest.TestCase):
    def test_neither_refused_nor_answered(self):
        calls = (FIRST, right(1, 3), right(1, 8), left(1, 7), left_mark(6), left(1, 5))
        behind = (lefts(), rights(), counts(), right_mark(8), at(1, 7), left(1, 6))
        asked = (at(1, 6), at(1, 7), at(1, 8), at(2, 7), at(1, 5), at(1, 1000001), at(1, 1000000))
        self.assertEqual(ask(*calls, *asked, *behind)[13:], ask(*calls, *behind)[6:])
        self.assertEqual(ask(*calls, *behind)[6:],
                         [[1, 1, 1, 7, 0], [2, 1, 1, 3, 0, 2, 1, 8, 0], [1, 2, 1, 6, 0], changes((1, 1, 1)), [1, 3],
                          [2] + changes((1, 2, 1))])

    def test_where_the_sort_is_not_3(self):
        for first in OTHERS:
            calls = (first, right(1, 5), left(2, 5))
            behind = (lefts(), rights(), counts(), left(1, 5), right_mark(50), left_mark(50))
            self.assertEqual(ask(*calls, at(1, 5), at(1, 1000001), *behind)[5:], ask(*calls, *behind)[3:])


if __name__ == "__main__":
    unittest.main()
