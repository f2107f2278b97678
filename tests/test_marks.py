"""left_mark and right_mark: refusals, marks that stay, and the rows that go."""

import unittest

from tests.calls import BIGGEST, ask, begin, changes, last, left, left_mark, right, right_mark

SORTS = (begin(0, 10, 10, 0), begin(1, 10, 10, 1), begin(2, 10, 10, 0), begin(3, 0, 0, 0))


class Refusals(unittest.TestCase):
    def test_below_its_own_mark(self):
        for first in SORTS:
            for mark, other in ((left_mark, right_mark), (right_mark, left_mark)):
                for time in (0, 1, 49):
                    self.assertEqual(last(first, mark(50), mark(time)), [-2])
                self.assertEqual(last(first, mark(50), other(49)), [0])
                self.assertEqual(last(first, mark(1000001), mark(1000000)), [-2])
                self.assertEqual(last(first, mark(1), mark(0)), [-2])

    def test_above_the_highest(self):
        for first in SORTS:
            for mark in (left_mark, right_mark):
                self.assertEqual(last(first, mark(1000000)), [0])
                self.assertEqual(last(first, mark(1000001)), [0])
                self.assertEqual(last(first, mark(1000001), mark(1000001)), [0])
                for time in (1000002, 1000003, BIGGEST):
                    self.assertEqual(last(first, mark(time)), [-3])
                    self.assertEqual(last(first, mark(1000001), mark(time)), [-3])

    def test_all_is_as_it_was(self):
        for time, refusal in ((49, -2), (1000002, -3)):
            got = ask(begin(2, 2, 2, 0), left(1, 60), right(2, 60), left_mark(50), right_mark(50),
                      left_mark(time), right_mark(time),
                      left(3, 49), right(3, 49), left(2, 60), right(1, 60), left_mark(50), right_mark(50))
            self.assertEqual(got[5:], [[refusal], [refusal], [0, 0], [0, 0],
                                       [2] + changes((1, 2, 1)), [2] + changes((1, 1, 2)), [0], [0]])


class Staying(unittest.TestCase):
    def test_a_mark_that_stays_tells_nothing(self):
        for first in SORTS:
            got = ask(first, left(1, 60), right(2, 60), left_mark(50), right_mark(50), left_mark(50), right_mark(50))
            self.assertEqual(got[3:], [[0], [0], [0], [0]])
        self.assertEqual(ask(left_mark(0), right_mark(0)), [[0], [0]])

    def test_rows_at_the_mark_are_taken_still(self):
        got = ask(left_mark(50), left_mark(50), left(1, 50), left(1, 49))
        self.assertEqual(got[2:], [[1, 0], [0, 0]])


class WhoGoes(unittest.TestCase):
    def test_left_rows_at_the_edge_of_after(self):
        for sort in (1, 2):
            for after in (0, 1, 7, 100000):
                got = ask(begin(sort, 3, after, 0), left(1, 50), right_mark(50 + after), right_mark(51 + after))
                self.assertEqual(got[2:], [[0], changes((1, 1, 0))])

    def test_right_rows_at_the_edge_of_ahead(self):
        for ahead in (0, 1, 7, 100000):
            got = ask(begin(2, ahead, 3, 0), right(1, 50), left_mark(50 + ahead), left_mark(51 + ahead))
            self.assertEqual(got[2:], [[0], changes((1, 0, 1))])

    def test_its_own_sides_mark_lets_no_row_go(self):
        got = ask(begin(2, 2, 2, 0), left(1, 5), left_mark(1000001), right(1, 5), right_mark(1000001))
        self.assertEqual(got[2:], [[0], [1] + changes((1, 1, 1)), [0]])
        got = ask(begin(2, 2, 2, 0), right(1, 5), right_mark(1000001), left(1, 5), left_mark(1000001))
        self.assertEqual(got[2:], [[0], [1] + changes((1, 1, 1)), [0]])

    def test_no_row_is_wanted_above_1000000(self):
        for time in (900001, 999999, 1000000):
            got = ask(begin(2, 100000, 100000, 0), left(1, time), right_mark(1000000), right_mark(1000001))
            self.assertEqual(got[2:], [[0], changes((1, 1, 0))])
            got = ask(begin(2, 100000, 100000, 0), right(1, time), left_mark(1000000), left_mark(1000001))
            self.assertEqual(got[2:], [[0], changes((1, 0, 1))])

    def test_a_row_that_comes_is_not_wanted_above_1000000(self):
        for sort in (1, 2):
            for mark, answer in ((1000000, [1, 0]), (1000001, [1] + changes((1, 1, 0)))):
                self.assertEqual(last(begin(sort, 100000, 100000, 0), right_mark(mark), left(1, 1000000)), answer)
        for mark, answer in ((1000000, [1, 0]), (1000001, [1] + changes((1, 0, 1)))):
            self.assertEqual(last(begin(2, 100000, 100000, 0), left_mark(mark), right(1, 1000000)), answer)

    def test_what_is_wanted_to_the_last_meets_the_last_row(self):
        got = ask(begin(2, 100000, 100000, 0), left(1, 900000), right_mark(1000000), right(1, 1000000))
        self.assertEqual(got[3], [1] + changes((1, 1, 1)))
        got = ask(begin(2, 100000, 100000, 0), right(1, 900000), left_mark(1000000), left(1, 1000000))
        self.assertEqual(got[3], [1] + changes((1, 1, 1)))

    def test_by_number_and_not_by_time(self):
        got = ask(begin(2, 0, 0, 0), left(1, 9), left(2, 3), left(1, 20), left(5, 6), right_mark(10), right_mark(21))
        self.assertEqual(got[5:], [changes((1, 1, 0), (1, 2, 0), (1, 4, 0)), changes((1, 3, 0))])
        got = ask(begin(2, 0, 0, 0), right(1, 9), right(2, 3), right(1, 20), right(5, 6), left_mark(10), left_mark(21))
        self.assertEqual(got[5:], [changes((1, 0, 1), (1, 0, 2), (1, 0, 4)), changes((1, 0, 3))])

    def test_of_those_that_go_only_the_ones_alone_are_told(self):
        got = ask(begin(2, 2, 2, 0), left(1, 5), left(2, 5), left(3, 5), right(2, 6), right_mark(8), left_mark(9))
        self.assertEqual(got[5:], [changes((1, 1, 0), (1, 3, 0)), [0]])
        got = ask(begin(2, 2, 2, 0), right(1, 5), right(2, 5), right(3, 5), left(2, 6), left_mark(8), right_mark(9))
        self.assertEqual(got[5:], [changes((1, 0, 1), (1, 0, 3)), [0]])

    def test_sort_1_tells_left_rows_only(self):
        got = ask(begin(1, 2, 2, 0), left(1, 5), right(2, 5), left_mark(8), right_mark(8))
        self.assertEqual(got[3:], [[0], changes((1, 1, 0))])


if __name__ == "__main__":
    unittest.main()
