"""begin: what it refuses, what a refusal leaves, and what an accepted one starts anew."""

import unittest

from tests.calls import (BIGGEST, ask, at, begin, changes, counts, kept, last, left, left_mark, lefts, right,
                         right_mark, rights)


class Refusals(unittest.TestCase):
    def test_sort(self):
        for sort in (0, 1, 2, 3):
            self.assertEqual(last(begin(sort, 0, 0, 0)), [0])
        for sort in (4, 5, BIGGEST):
            self.assertEqual(last(begin(sort, 0, 0, 0)), [-1])

    def test_ahead_and_after_bounds(self):
        for sort in (0, 1, 2):
            self.assertEqual(last(begin(sort, 100000, 0, 0)), [0])
            self.assertEqual(last(begin(sort, 0, 100000, 0)), [0])
            self.assertEqual(last(begin(sort, 100000, 100000, 0)), [0])
            for far in (100001, BIGGEST):
                self.assertEqual(last(begin(sort, far, 0, 0)), [-2])
                self.assertEqual(last(begin(sort, 0, far, 0)), [-2])
                self.assertEqual(last(begin(sort, far, far, 0)), [-2])

    def test_ahead_and_after_in_sort_3(self):
        self.assertEqual(last(begin(3, 0, 0, 0)), [0])
        for ahead, after in ((1, 0), (0, 1), (1, 1), (10, 10), (100000, 0), (0, 100000), (100001, 0), (0, 100001)):
            self.assertEqual(last(begin(3, ahead, after, 0)), [-2])

    def test_eager(self):
        for sort in (1, 2):
            self.assertEqual(last(begin(sort, 5, 5, 0)), [0])
            self.assertEqual(last(begin(sort, 5, 5, 1)), [0])
        for sort in (0, 3):
            self.assertEqual(last(begin(sort, 0, 0, 0)), [0])
            self.assertEqual(last(begin(sort, 0, 0, 1)), [-3])
        for sort in (0, 1, 2, 3):
            for eager in (2, BIGGEST):
                self.assertEqual(last(begin(sort, 0, 0, eager)), [-3])

    def test_the_one_told_first(self):
        self.assertEqual(last(begin(4, 100001, 100001, 2)), [-1])
        self.assertEqual(last(begin(4, 0, 0, 2)), [-1])
        self.assertEqual(last(begin(4, 100001, 0, 0)), [-1])
        self.assertEqual(last(begin(0, 100001, 0, 2)), [-2])
        self.assertEqual(last(begin(0, 0, 100001, 1)), [-2])
        self.assertEqual(last(begin(2, 0, 100001, 2)), [-2])
        self.assertEqual(last(begin(3, 1, 0, 1)), [-2])
        self.assertEqual(last(begin(3, 0, 1, 2)), [-2])


class AfterARefusal(unittest.TestCase):
    REFUSED = (begin(4, 0, 0, 0), begin(0, 100001, 0, 0), begin(0, 0, 100001, 0), begin(3, 1, 1, 0),
               begin(0, 0, 0, 1), begin(3, 0, 0, 1), begin(1, 0, 0, 2))

    def test_sort_marks_numbers_and_kept_rows_stay(self):
        for refused in self.REFUSED:
            got = ask(begin(2, 3, 4, 1), left(7, 20), right(8, 20), left_mark(10), right_mark(10),
                      refused,
                      left(9, 9), right(9, 9), right(7, 24), left(8, 23), left(7, 25), left_mark(9), right_mark(9))
            self.assertEqual(len(got[5]), 1)
            self.assertLess(got[5][0], 0)
            self.assertEqual(got[6:], [[0, 0], [0, 0],
                                       [2] + changes((0, 1, 0), (1, 1, 2)),
                                       [2] + changes((0, 0, 1), (1, 2, 1)),
                                       [3] + changes((1, 3, 2)),
                                       [-2], [-2]])

    def test_sort_3_stays(self):
        for refused in self.REFUSED:
            self.assertEqual(last(begin(3, 0, 0, 0), right(1, 5), left(1, 100), refused, right_mark(101)),
                             changes((1, 1, 1)))

    def test_a_refusal_as_the_first_call_leaves_the_join_of_the_beginning(self):
        self.assertEqual(ask(begin(1, 0, 0, 2), left(1, 10), right(1, 20), right(1, 21)),
                         [[-3], [1] + changes(), [1] + changes((1, 1, 1)), [2] + changes()])


class AfterAnAcceptedBegin(unittest.TestCase):
    def test_the_marks_are_0(self):
        for sort in (0, 1, 2, 3):
            got = ask(left_mark(500), right_mark(600), begin(sort, 0, 0, 0),
                      left_mark(0), right_mark(0), left(1, 0), right(2, 0))
            self.assertEqual(got[2:], [[0], [0], [0], [1, 0], [1, 0]])

    def test_numbers_begin_at_1(self):
        got = ask(left(1, 0), left(1, 0), right(2, 0), begin(0, 10, 10, 0), left(5, 0), right(6, 0), left(5, 0))
        self.assertEqual(got[3:], [[0], [1, 0], [1, 0], [2, 0]])

    def test_nothing_has_come(self):
        self.assertEqual(ask(left(1, 5), right(1, 5), begin(0, 10, 10, 0), right(1, 5), left(2, 5))[2:],
                         [[0], [1, 0], [1, 0]])
        self.assertEqual(ask(begin(2, 10, 10, 1), left(1, 5), begin(2, 10, 10, 1), right(1, 5))[2:],
                         [[0], [1] + changes((1, 0, 1))])
        self.assertEqual(ask(begin(1, 10, 10, 0), left(1, 5), begin(1, 10, 10, 0), right_mark(1000001))[2:],
                         [[0], [0]])
        self.assertEqual(ask(begin(3, 0, 0, 0), left(1, 5), right(1, 5), begin(3, 0, 0, 0), right_mark(6), left(1, 5)),
                         [[0], [1, 0], [1, 0], [0], [0], [1] + changes((1, 1, 0))])

    def test_nothing_is_told_of_what_was_waiting(self):
        self.assertEqual(last(begin(2, 1, 1, 0), left(1, 5), right(2, 5), begin(2, 1, 1, 0)), [0])
        self.assertEqual(last(begin(2, 1, 1, 1), left(1, 5), right(2, 5), begin(3, 0, 0, 0)), [0])

    def test_ahead_and_after_are_the_new_ones(self):
        self.assertEqual(last(begin(0, 2, 3, 0), right(1, 10), left(1, 12)), [1] + changes((1, 1, 1)))
        self.assertEqual(last(begin(0, 2, 3, 0), right(1, 10), left(1, 13)), [1, 0])
        self.assertEqual(last(begin(0, 2, 3, 0), left(1, 10), right(1, 13)), [1] + changes((1, 1, 1)))
        self.assertEqual(last(begin(0, 2, 3, 0), left(1, 10), right(1, 14)), [1, 0])


class WithoutBegin(unittest.TestCase):
    def test_it_is_sort_0_with_10_and_10(self):
        for first in ((), (begin(0, 10, 10, 0),)):
            self.assertEqual(last(*first, left(1, 100), right(1, 110)), [1] + changes((1, 1, 1)))
            self.assertEqual(last(*first, left(1, 100), right(1, 111)), [1, 0])
            self.assertEqual(last(*first, right(1, 100), left(1, 110)), [1] + changes((1, 1, 1)))
            self.assertEqual(last(*first, right(1, 100), left(1, 111)), [1, 0])
            self.assertEqual(ask(*first, left(1, 0), right(2, 0), left_mark(1000001), right_mark(1000001))[-4:],
                             [[1, 0], [1, 0], [0], [0]])

    def test_any_call_may_be_first(self):
        self.assertEqual(ask(begin(0, 0, 0, 0)), [[0]])
        self.assertEqual(ask(left(3, 4)), [[1, 0]])
        self.assertEqual(ask(right(3, 4)), [[1, 0]])
        self.assertEqual(ask(left_mark(4), left(1, 3), right(1, 3)), [[0], [0, 0], [1, 0]])
        self.assertEqual(ask(right_mark(4), right(1, 3), left(1, 3)), [[0], [0, 0], [1, 0]])
        self.assertEqual(ask(lefts()), [[0]])
        self.assertEqual(ask(rights()), [[0]])
        self.assertEqual(ask(counts()), [[0, 0, 0, 0, 0]])
        self.assertEqual(ask(at(3, 4)), [[-4]])

    def test_whichever_is_first_it_is_as_behind_that_begin(self):
        # The windows show in who meets (5 and 15, not 16), the sort in what is not told alone.
        behind = (left(1, 5), right(1, 16), right(1, 15), left(1, 26), lefts(), rights(), counts(), at(1, 15),
                  right_mark(16), left_mark(26), lefts(), rights(), right_mark(1000001), left_mark(1000001))
        firsts = (begin(3, 0, 0, 1), left(2, 0), right(2, 0), left_mark(0), right_mark(0), lefts(), rights(),
                  counts(), at(2, 0))
        for first in firsts:
            self.assertEqual(ask(first, *behind), ask(begin(0, 10, 10, 0), first, *behind)[1:])
        self.assertEqual(ask(lefts(), *behind)[1:],
                         [[1, 0], [1, 0], [2] + changes((1, 1, 2)), [2] + changes((1, 2, 1)),
                          kept((1, 1, 5, 1), (2, 1, 26, 1)), kept((1, 1, 16, 1), (2, 1, 15, 1)), [2, 2, 0, 0, 0], [-4],
                          [0], [0], kept((2, 1, 26, 1)), kept((1, 1, 16, 1)), [0], [0]])


if __name__ == "__main__":
    unittest.main()
