"""Sort 3: each left row is told with the version that holds at its time."""

import unittest

from tests.calls import ask, begin, changes, last, left, left_mark, right, right_mark

FIRST = begin(3, 0, 0, 0)


class WhenItIsTold(unittest.TestCase):
    def test_at_once_if_the_right_mark_is_above_its_time(self):
        self.assertEqual(last(FIRST, right_mark(6), left(1, 5)), [1] + changes((1, 1, 0)))
        self.assertEqual(last(FIRST, right(1, 3), right_mark(6), left(1, 5)), [1] + changes((1, 1, 1)))

    def test_else_it_waits(self):
        self.assertEqual(last(FIRST, left(1, 5)), [1, 0])
        self.assertEqual(last(FIRST, right_mark(5), left(1, 5)), [1, 0])
        self.assertEqual(last(FIRST, right(1, 3), right_mark(5), left(1, 5)), [1, 0])

    def test_told_when_the_right_mark_goes_above_its_time(self):
        got = ask(FIRST, left(1, 5), right_mark(5), right_mark(6), right_mark(7))
        self.assertEqual(got[2:], [[0], changes((1, 1, 0)), [0]])
        got = ask(FIRST, left(1, 1000000), right_mark(1000000), right_mark(1000001))
        self.assertEqual(got[2:], [[0], changes((1, 1, 0))])

    def test_the_left_mark_tells_nothing(self):
        got = ask(FIRST, left(1, 5), right(1, 3), right(2, 3), left_mark(1000001), right_mark(1000001))
        self.assertEqual(got[4:], [[0], changes((1, 1, 1))])

    def test_a_version_that_comes_tells_nothing(self):
        got = ask(FIRST, left(1, 5), right(1, 5), right_mark(4), right(1, 4), right(1, 5), right(2, 9))
        self.assertEqual(got[1:], [[1, 0], [1, 0], [0], [2, 0], [3, 0], [4, 0]])

    def test_by_time_then_by_number(self):
        got = ask(FIRST, left(1, 9), left(2, 5), left(1, 7), left(3, 5), left(1, 20), left(2, 7), right(1, 6),
                  right_mark(10), right_mark(21))
        self.assertEqual(got[8:], [changes((1, 2, 0), (1, 4, 0), (1, 3, 1), (1, 6, 0), (1, 1, 1)),
                                   changes((1, 5, 1))])

    def test_a_version_without_a_left_row_is_never_told(self):
        got = ask(FIRST, right(1, 5), right(1, 6), right_mark(1000001), left_mark(1000001))
        self.assertEqual(got[3:], [[0], [0]])


class WhatHolds(unittest.TestCase):
    def told(self, time, *versions):
        """The number of the version that a left row of key 1 is told with, waiting or not."""
        waits = last(FIRST, left(1, time), *versions, right_mark(1000001))
        waits_behind = last(FIRST, *versions, left(1, time), right_mark(1000001))
        comes_late = last(FIRST, *versions, right_mark(1000001), left(1, time))
        self.assertEqual(waits_behind, waits)
        self.assertEqual(comes_late, [1] + waits)
        self.assertEqual(waits[:3], [1, 1, 1])
        return waits[3]

    def test_none(self):
        self.assertEqual(self.told(5), 0)
        self.assertEqual(self.told(5, right(1, 6)), 0)
        self.assertEqual(self.told(5, right(2, 5), right(0, 4)), 0)

    def test_from_its_time_on(self):
        self.assertEqual(self.told(5, right(1, 5)), 1)
        self.assertEqual(self.told(4, right(1, 5)), 0)
        self.assertEqual(self.told(1000000, right(1, 5)), 1)
        self.assertEqual(self.told(1000000, right(1, 0), right(1, 1000000)), 2)
        self.assertEqual(self.told(0, right(1, 0)), 1)

    def test_the_newest_that_is_not_later(self):
        versions = (right(1, 30), right(1, 10), right(1, 20), right(2, 25))
        for time, number in ((9, 0), (10, 2), (19, 2), (20, 3), (25, 3), (29, 3), (30, 1), (31, 1)):
            self.assertEqual(self.told(time, *versions), number)

    def test_of_the_same_time_the_greater_number(self):
        versions = (right(1, 10), right(1, 10), right(2, 10), right(1, 5))
        for time, number in ((5, 4), (9, 4), (10, 2), (11, 2)):
            self.assertEqual(self.told(time, *versions), number)

    def test_a_version_may_hold_for_several(self):
        got = ask(FIRST, right(1, 3), left(1, 4), left(1, 5), right_mark(6), left(1, 5), left(1, 4))
        self.assertEqual(got[4:], [changes((1, 1, 1), (1, 2, 1)), [3] + changes((1, 3, 1)), [4] + changes((1, 4, 1))])


class WhatIsKept(unittest.TestCase):
    def test_for_a_row_that_waits(self):
        # Behind the left mark version 1 holds for the waiting row alone.
        got = ask(FIRST, right(1, 3), left(1, 5), right(1, 8), left_mark(50), right_mark(6), right_mark(60))
        self.assertEqual(got[4:], [[0], changes((1, 1, 1)), [0]])

    def test_for_one_that_could_still_come(self):
        got = ask(FIRST, right(1, 3), right(1, 50), left_mark(49), right_mark(49), left(1, 49), right_mark(50))
        self.assertEqual(got[4:], [[0], [1, 0], changes((1, 1, 1))])
        got = ask(FIRST, right(1, 3), left_mark(1000000), right_mark(1000001), left(1, 1000000))
        self.assertEqual(got[2:], [[0], [0], [1] + changes((1, 1, 1))])

    def test_a_version_that_comes_late_takes_its_part(self):
        got = ask(FIRST, right(1, 3), right(1, 50), left(1, 20), left(1, 30), left_mark(60), right(1, 25),
                  right_mark(100), left(1, 60))
        self.assertEqual(got[5:], [[0], [3, 0], changes((1, 1, 1), (1, 2, 3)), [3] + changes((1, 3, 2))])

    def test_a_version_of_the_same_time_takes_over_for_a_row_that_waits(self):
        got = ask(FIRST, right(1, 3), left(1, 5), left_mark(1000001), right(1, 3), right_mark(6))
        self.assertEqual(got[4:], [[2, 0], changes((1, 1, 2))])

    def test_with_all_left_rows_come_the_waiting_ones_keep_theirs(self):
        got = ask(FIRST, left(1, 5), left(2, 9), left_mark(1000001), right(1, 4), right(2, 9), right(2, 8),
                  right_mark(1000001))
        self.assertEqual(got[4:], [[1, 0], [2, 0], [3, 0], changes((1, 1, 1), (1, 2, 2))])


if __name__ == "__main__":
    unittest.main()
