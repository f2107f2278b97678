"""left and right: refused, put aside or taken, their numbers, and who meets whom."""

import unittest

from tests.calls import BIGGEST, ask, begin, changes, last, left, left_mark, right, right_mark

SORTS = (begin(0, 10, 10, 0), begin(1, 10, 10, 0), begin(2, 10, 10, 0), begin(3, 0, 0, 0))


class TooLate(unittest.TestCase):
    def test_time_bound(self):
        for first in SORTS:
            for side in (left, right):
                self.assertEqual(last(first, side(1, 1000000)), [1, 0])
                for time in (1000001, 1000002, BIGGEST):
                    self.assertEqual(last(first, side(1, time)), [-2])

    def test_refused_also_at_the_highest_marks(self):
        for first in SORTS:
            got = ask(first, left_mark(1000001), right_mark(1000001), left(1, 1000001), right(1, 1000001))
            self.assertEqual(got[3:], [[-2], [-2]])

    def test_a_refused_row_gets_no_number_and_is_not_there(self):
        got = ask(begin(0, 100000, 100000, 0), left(1, 1000001), right(1, 1000001),
                  right(1, 1000000), left(1, 1000000))
        self.assertEqual(got[3:], [[1, 0], [1] + changes((1, 1, 1))])


class PutAside(unittest.TestCase):
    def test_ahead_of_its_own_mark(self):
        for first in SORTS:
            self.assertEqual(last(first, left_mark(50), left(1, 49)), [0, 0])
            self.assertEqual(last(first, left_mark(50), left(1, 0)), [0, 0])
            self.assertEqual(last(first, right_mark(50), right(1, 49)), [0, 0])
            self.assertEqual(last(first, left_mark(1000001), left(1, 1000000)), [0, 0])
            self.assertEqual(last(first, right_mark(1000001), right(1, 1000000)), [0, 0])

    def test_at_its_mark_it_is_taken(self):
        for first in SORTS[:3]:
            self.assertEqual(last(first, left_mark(50), left(1, 50))[0], 1)
            self.assertEqual(last(first, right_mark(50), right(1, 50))[0], 1)
        self.assertEqual(last(SORTS[3], left_mark(50), left(1, 50)), [1, 0])
        self.assertEqual(last(SORTS[3], right_mark(50), right(1, 50)), [1, 0])

    def test_the_other_sides_mark_puts_nothing_aside(self):
        self.assertEqual(last(left_mark(50), right(1, 49)), [1, 0])
        self.assertEqual(last(right_mark(50), left(1, 49)), [1, 0])

    def test_nothing_else_happens(self):
        # The rows put aside would meet the kept ones, take them back, and use up numbers.
        got = ask(begin(2, 10, 10, 1), left(1, 50), right(2, 50), left_mark(48), right_mark(48),
                  left(2, 47), right(1, 47), left(3, 47), right(3, 47),
                  left(3, 60), right(4, 60), left(2, 50), right(1, 50))
        self.assertEqual(got[5:], [[0, 0], [0, 0], [0, 0], [0, 0],
                                   [2] + changes((1, 2, 0)), [2] + changes((1, 0, 2)),
                                   [3] + changes((0, 0, 1), (1, 3, 1)),
                                   [3] + changes((0, 1, 0), (1, 1, 3))])

    def test_a_version_put_aside_never_holds(self):
        self.assertEqual(ask(begin(3, 0, 0, 0), left(1, 20), right_mark(10), right(1, 9), right_mark(21))[3:],
                         [[0, 0], changes((1, 1, 0))])

    def test_a_left_row_put_aside_is_not_told_in_sort_3(self):
        got = ask(begin(3, 0, 0, 0), left_mark(10), left(1, 9), right_mark(9), left(1, 9), right_mark(30))
        self.assertEqual(got[2:], [[0, 0], [0], [0, 0], [0]])


class Numbers(unittest.TestCase):
    def test_each_side_counts_its_own(self):
        got = ask(left(1, 0), left(2, 0), right(3, 0), left(4, 0), right(5, 0), right(6, 0), right(7, 0), left(8, 0))
        self.assertEqual([answer[0] for answer in got], [1, 2, 1, 3, 2, 3, 4, 4])

    def test_counts_on_in_sort_3(self):
        got = ask(begin(3, 0, 0, 0), left(1, 0), right(1, 0), right(1, 0), left(1, 0), right(1, 0))
        self.assertEqual([answer[0] for answer in got[1:]], [1, 1, 2, 2, 3])

    def test_a_row_that_is_never_kept_has_a_number_too(self):
        got = ask(begin(0, 0, 0, 0), right_mark(50), left(1, 5), left(1, 6), left(1, 50))
        self.assertEqual(got[2:], [[1, 0], [2, 0], [3, 0]])


class WhoMeets(unittest.TestCase):
    def met(self, ahead, after, left_time, right_time):
        """Whether they meet; whichever of the two comes first, it must be the same."""
        first = begin(0, ahead, after, 0)
        left_last = last(first, right(1, right_time), left(1, left_time))
        right_last = last(first, left(1, left_time), right(1, right_time))
        self.assertEqual(left_last, right_last)
        self.assertIn(left_last, ([1, 0], [1] + changes((1, 1, 1))))
        return left_last != [1, 0]

    def test_the_edges_of_ahead(self):
        for ahead in (0, 1, 7, 100000):
            self.assertTrue(self.met(ahead, 0, 500 + ahead, 500))
            self.assertFalse(self.met(ahead, 0, 501 + ahead, 500))
            self.assertTrue(self.met(ahead, 50, 500 + ahead, 500))
            self.assertFalse(self.met(ahead, 50, 501 + ahead, 500))

    def test_the_edges_of_after(self):
        for after in (0, 1, 7, 100000):
            self.assertTrue(self.met(0, after, 500, 500 + after))
            self.assertFalse(self.met(0, after, 500, 501 + after))
            self.assertTrue(self.met(50, after, 500, 500 + after))
            self.assertFalse(self.met(50, after, 500, 501 + after))

    def test_the_same_time(self):
        for ahead, after in ((0, 0), (3, 0), (0, 3), (3, 3)):
            self.assertTrue(self.met(ahead, after, 0, 0))
            self.assertTrue(self.met(ahead, after, 1000000, 1000000))

    def test_at_both_ends_of_time(self):
        self.assertTrue(self.met(0, 100000, 900000, 1000000))
        self.assertFalse(self.met(0, 100000, 899999, 1000000))
        self.assertTrue(self.met(100000, 0, 1000000, 900000))
        self.assertFalse(self.met(100000, 0, 1000000, 899999))
        self.assertTrue(self.met(5, 0, 5, 0))
        self.assertTrue(self.met(0, 5, 0, 5))

    def test_keys(self):
        for one, two in ((1, 2), (0, 1), (0, BIGGEST), (BIGGEST, BIGGEST - 1), (1, 10)):
            self.assertEqual(last(left(one, 5), right(two, 5)), [1, 0])
            self.assertEqual(last(right(one, 5), left(two, 5)), [1, 0])
            self.assertEqual(last(left(one, 5), right(one, 5)), [1] + changes((1, 1, 1)))
            self.assertEqual(last(right(two, 5), left(two, 5)), [1] + changes((1, 1, 1)))

    def test_rows_of_one_side_do_not_meet(self):
        self.assertEqual(ask(left(1, 5), left(1, 5), left(1, 5)), [[1, 0], [2, 0], [3, 0]])
        self.assertEqual(ask(right(1, 5), right(1, 5), right(1, 5)), [[1, 0], [2, 0], [3, 0]])

    def test_each_two_that_meet_are_told(self):
        got = ask(left(1, 5), left(1, 6), right(1, 5), right(1, 6), left(1, 5))
        self.assertEqual(got[2:], [[1] + changes((1, 1, 1), (1, 2, 1)),
                                   [2] + changes((1, 1, 2), (1, 2, 2)),
                                   [3] + changes((1, 3, 1), (1, 3, 2))])

    def test_by_number_and_not_by_time(self):
        self.assertEqual(last(left(1, 9), left(2, 1), left(1, 3), left(1, 6), right(1, 5)),
                         [1] + changes((1, 1, 1), (1, 3, 1), (1, 4, 1)))
        self.assertEqual(last(right(1, 9), right(2, 1), right(1, 3), right(1, 6), left(1, 5)),
                         [1] + changes((1, 1, 1), (1, 1, 3), (1, 1, 4)))


if __name__ == "__main__":
    unittest.main()
