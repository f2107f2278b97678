"""Sorts 0, 1 and 2: rows alone, told at once or at the end, and taken back."""

import unittest

from tests.calls import ask, begin, changes, last, left, left_mark, right, right_mark


class NotTold(unittest.TestCase):
    def test_sort_0_tells_nobody_alone(self):
        got = ask(begin(0, 2, 2, 0), left(1, 5), right(2, 5), left_mark(1000001), right_mark(1000001))
        self.assertEqual(got[1:], [[1, 0], [1, 0], [0], [0]])
        got = ask(begin(0, 2, 2, 0), left_mark(50), right_mark(50), right(1, 50), left(2, 50))
        self.assertEqual(got[3:], [[1, 0], [1, 0]])
        self.assertEqual(ask(begin(0, 2, 2, 0), right_mark(50), left(1, 5))[2], [1, 0])
        self.assertEqual(ask(begin(0, 2, 2, 0), left_mark(50), right(1, 5))[2], [1, 0])

    def test_sort_0_takes_nothing_back(self):
        self.assertEqual(last(begin(0, 2, 2, 0), left(1, 5), right(1, 5)), [1] + changes((1, 1, 1)))
        self.assertEqual(last(begin(0, 2, 2, 0), right(1, 5), left(1, 5)), [1] + changes((1, 1, 1)))

    def test_sort_1_tells_no_right_row_alone(self):
        for eager in (0, 1):
            self.assertEqual(last(begin(1, 2, 2, eager), right(1, 5)), [1, 0])
            self.assertEqual(last(begin(1, 2, 2, eager), right(1, 5), left_mark(8)), [0])
            self.assertEqual(last(begin(1, 2, 2, eager), left_mark(8), right(1, 5)), [1, 0])
            self.assertEqual(last(begin(1, 2, 2, eager), right(1, 5), left(1, 5)), [1] + changes((1, 1, 1)))


class AtOnce(unittest.TestCase):
    def test_told_when_it_comes(self):
        for sort in (1, 2):
            self.assertEqual(last(begin(sort, 2, 2, 1), left(1, 5)), [1] + changes((1, 1, 0)))
        self.assertEqual(last(begin(2, 2, 2, 1), right(1, 5)), [1] + changes((1, 0, 1)))

    def test_not_told_again_when_it_goes(self):
        for sort in (1, 2):
            self.assertEqual(last(begin(sort, 2, 2, 1), left(1, 5), right_mark(8)), [0])
            self.assertEqual(last(begin(sort, 2, 2, 1), left(1, 5), right_mark(1000001)), [0])
        self.assertEqual(last(begin(2, 2, 2, 1), right(1, 5), left_mark(8)), [0])

    def test_told_when_it_comes_also_if_it_is_not_wanted(self):
        for sort in (1, 2):
            self.assertEqual(last(begin(sort, 2, 2, 1), right_mark(8), left(1, 5)), [1] + changes((1, 1, 0)))
        self.assertEqual(last(begin(2, 2, 2, 1), left_mark(8), right(1, 5)), [1] + changes((1, 0, 1)))

    def test_taken_back_once_when_it_meets(self):
        for sort in (1, 2):
            got = ask(begin(sort, 2, 2, 1), left(1, 5), right(1, 5), right(1, 6))
            self.assertEqual(got[2:], [[1] + changes((0, 1, 0), (1, 1, 1)), [2] + changes((1, 1, 2))])
        got = ask(begin(2, 2, 2, 1), right(1, 5), left(1, 5), left(1, 6))
        self.assertEqual(got[2:], [[1] + changes((0, 0, 1), (1, 1, 1)), [2] + changes((1, 2, 1))])

    def test_a_row_that_met_when_it_came_is_never_taken_back(self):
        got = ask(begin(2, 2, 2, 1), right(1, 5), left(1, 5), right(1, 6))
        self.assertEqual(got[3], [2] + changes((1, 1, 2)))
        got = ask(begin(2, 2, 2, 1), left(1, 5), right(1, 5), left(1, 6))
        self.assertEqual(got[3], [2] + changes((1, 2, 1)))

    def test_not_taken_back_by_a_row_that_does_not_meet_it(self):
        self.assertEqual(last(begin(2, 2, 2, 1), left(1, 5), right(1, 8)), [1] + changes((1, 0, 1)))
        self.assertEqual(last(begin(2, 2, 2, 1), left(1, 5), right(2, 5)), [1] + changes((1, 0, 1)))

    def test_by_number_taken_back_first_then_the_two(self):
        got = ask(begin(2, 9, 9, 1), left(1, 9), left(2, 5), left(1, 3), right(1, 12), left(1, 4), right(1, 5))
        self.assertEqual(got[4], [1] + changes((0, 1, 0), (1, 1, 1), (0, 3, 0), (1, 3, 1)))
        self.assertEqual(got[5], [4] + changes((1, 4, 1)))
        self.assertEqual(got[6], [2] + changes((1, 1, 2), (1, 3, 2), (1, 4, 2)))
        got = ask(begin(2, 2, 2, 1), right(1, 6), right(1, 3), left(1, 7), right(1, 5), left(1, 5))
        self.assertEqual(got[3], [1] + changes((0, 0, 1), (1, 1, 1)))
        self.assertEqual(got[4], [3] + changes((1, 1, 3)))
        self.assertEqual(got[5], [2] + changes((1, 2, 1), (0, 0, 2), (1, 2, 2), (1, 2, 3)))

    def test_an_unwanted_row_meets_what_is_kept(self):
        # The left row comes when the right mark is past it; the right row is wanted still.
        got = ask(begin(2, 2, 2, 1), right(1, 5), right_mark(50), left(1, 6), right(1, 50))
        self.assertEqual(got[3:], [[1] + changes((0, 0, 1), (1, 1, 1)), [2] + changes((1, 0, 2))])


class AtTheEnd(unittest.TestCase):
    def test_not_told_when_it_comes_and_wanted(self):
        for sort in (1, 2):
            self.assertEqual(last(begin(sort, 2, 2, 0), left(1, 5)), [1, 0])
            self.assertEqual(last(begin(sort, 2, 2, 0), right_mark(7), left(1, 5)), [1, 0])
        self.assertEqual(last(begin(2, 2, 2, 0), right(1, 5)), [1, 0])
        self.assertEqual(last(begin(2, 2, 2, 0), left_mark(7), right(1, 5)), [1, 0])

    def test_told_at_once_if_it_is_not_wanted_when_it_comes(self):
        for sort in (1, 2):
            self.assertEqual(last(begin(sort, 9, 2, 0), right_mark(8), left(1, 5)), [1] + changes((1, 1, 0)))
        self.assertEqual(last(begin(2, 2, 9, 0), left_mark(8), right(1, 5)), [1] + changes((1, 0, 1)))

    def test_told_once_only(self):
        got = ask(begin(2, 2, 2, 0), right_mark(8), left(1, 5), right_mark(9), right_mark(1000001))
        self.assertEqual(got[2:], [[1] + changes((1, 1, 0)), [0], [0]])
        got = ask(begin(2, 2, 2, 0), left(1, 5), right_mark(8), right_mark(9), right_mark(1000001))
        self.assertEqual(got[2:], [changes((1, 1, 0)), [0], [0]])
        got = ask(begin(2, 2, 2, 0), right(1, 5), left_mark(8), left_mark(9), left_mark(1000001))
        self.assertEqual(got[2:], [changes((1, 0, 1)), [0], [0]])

    def test_nothing_is_taken_back(self):
        for sort in (1, 2):
            got = ask(begin(sort, 2, 2, 0), left(1, 5), right(1, 5), right(1, 6), right_mark(50), left_mark(50))
            self.assertEqual(got[2:], [[1] + changes((1, 1, 1)), [2] + changes((1, 1, 2)), [0], [0]])

    def test_an_unwanted_row_that_meets_is_not_alone(self):
        got = ask(begin(2, 2, 2, 0), right(1, 5), right_mark(50), left(1, 6), left_mark(1000001))
        self.assertEqual(got[3:], [[1] + changes((1, 1, 1)), [0]])
        got = ask(begin(2, 2, 2, 0), left(1, 5), left_mark(50), right(1, 6), right_mark(1000001))
        self.assertEqual(got[3:], [[1] + changes((1, 1, 1)), [0]])

    def test_both_rows_of_two_that_met_are_not_alone(self):
        for one, two in ((left(1, 5), right(1, 6)), (right(1, 6), left(1, 5))):
            got = ask(begin(2, 2, 2, 0), one, two, left_mark(1000001), right_mark(1000001))
            self.assertEqual(got[2:], [[1] + changes((1, 1, 1)), [0], [0]])


if __name__ == "__main__":
    unittest.main()
