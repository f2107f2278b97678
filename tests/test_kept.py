"""Which rows are kept: those that something could still come for, and no others."""

import unittest

from joinedstreams.streams import Join, mark_goes_up, row_comes


class Asked:
    """A join with calls as short as those of the tests beside this one."""

    def __init__(self, *given):
        self.join = Join(*given)

    def left(self, key, time):
        row_comes(self.join, self.join.left, self.join.left.take(key, time))

    def right(self, key, time):
        row_comes(self.join, self.join.right, self.join.right.take(key, time))

    def left_mark(self, time):
        mark_goes_up(self.join, self.join.left, time)

    def right_mark(self, time):
        mark_goes_up(self.join, self.join.right, time)

    def lefts(self):
        return [row.number for row in self.join.left.kept]

    def rights(self):
        return [row.number for row in self.join.right.kept]


class Windows(unittest.TestCase):
    def test_rows_go_at_the_edge(self):
        for sort, eager in ((0, 0), (1, 0), (1, 1), (2, 0), (2, 1)):
            asked = Asked(sort, 3, 4, eager)
            for time in (12, 10, 11):
                asked.left(1, time)
                asked.right(2, time)
            asked.right_mark(14)
            self.assertEqual(asked.lefts(), [1, 2, 3])
            asked.right_mark(15)
            self.assertEqual(asked.lefts(), [1, 3])
            asked.left_mark(13)
            self.assertEqual(asked.rights(), [1, 2, 3])
            asked.left_mark(15)
            self.assertEqual(asked.rights(), [1])
            self.assertEqual(asked.lefts(), [1, 3])

    def test_a_row_that_is_not_wanted_is_never_kept(self):
        for eager in (0, 1):
            asked = Asked(2, 3, 4, eager)
            asked.left_mark(14)
            asked.right_mark(15)
            asked.left(1, 14)
            asked.right(2, 15)
            self.assertEqual((asked.lefts(), asked.rights()), ([1], [1]))
            asked = Asked(2, 3, 4, eager)
            asked.right_mark(15)
            asked.left(1, 10)
            asked.left(1, 11)
            self.assertEqual(asked.lefts(), [2])

    def test_a_row_that_has_met_is_kept_while_it_is_wanted(self):
        asked = Asked(2, 3, 4, 1)
        asked.left(1, 10)
        asked.right(1, 10)
        self.assertEqual((asked.lefts(), asked.rights()), ([1], [1]))
        self.assertEqual([row.met for row in asked.join.left.kept + asked.join.right.kept], [True, True])

    def test_none_is_kept_at_the_highest_mark(self):
        asked = Asked(0, 100000, 100000, 0)
        asked.left(1, 1000000)
        asked.right(2, 1000000)
        asked.left_mark(1000001)
        asked.right_mark(1000001)
        self.assertEqual((asked.lefts(), asked.rights()), ([], []))


class Moments(unittest.TestCase):
    def test_a_left_row_is_kept_while_it_waits(self):
        asked = Asked(3, 0, 0, 0)
        asked.left(1, 5)
        asked.left(1, 3)
        asked.left_mark(1000001)
        asked.right_mark(3)
        self.assertEqual(asked.lefts(), [1, 2])
        asked.right_mark(4)
        self.assertEqual(asked.lefts(), [1])
        asked.right_mark(6)
        self.assertEqual(asked.lefts(), [])

    def test_a_left_row_told_at_once_is_never_kept(self):
        asked = Asked(3, 0, 0, 0)
        asked.right_mark(6)
        asked.left(1, 5)
        asked.left(1, 6)
        self.assertEqual(asked.lefts(), [2])

    def test_a_version_goes_when_a_newer_one_holds_from_the_left_mark_on(self):
        asked = Asked(3, 0, 0, 0)
        asked.right(1, 3)
        asked.right(1, 8)
        asked.right(2, 3)
        asked.left_mark(7)
        self.assertEqual(asked.rights(), [1, 2, 3])
        asked.left_mark(8)
        self.assertEqual(asked.rights(), [2, 3])
        asked.left_mark(1000000)
        self.assertEqual(asked.rights(), [2, 3])
        asked.left_mark(1000001)
        self.assertEqual(asked.rights(), [])

    def test_the_lesser_number_of_the_same_time_goes_at_once(self):
        asked = Asked(3, 0, 0, 0)
        asked.right(1, 3)
        asked.right(2, 3)
        asked.right(1, 3)
        self.assertEqual(asked.rights(), [2, 3])

    def test_a_version_that_nothing_could_ask_for_is_never_kept(self):
        asked = Asked(3, 0, 0, 0)
        asked.right(1, 8)
        asked.left_mark(8)
        asked.right(1, 3)
        self.assertEqual(asked.rights(), [1])
        asked.right(1, 9)
        self.assertEqual(asked.rights(), [1, 3])
        asked.left_mark(1000001)
        asked.right(1, 1000000)
        self.assertEqual(asked.rights(), [])

    def test_a_waiting_row_keeps_its_version_until_it_is_told(self):
        asked = Asked(3, 0, 0, 0)
        asked.right(1, 3)
        asked.right(1, 8)
        asked.left(1, 7)
        asked.left(2, 7)
        asked.left_mark(1000001)
        self.assertEqual(asked.rights(), [1])
        asked.right_mark(7)
        self.assertEqual(asked.rights(), [1])
        asked.right_mark(8)
        self.assertEqual(asked.rights(), [])

    def test_a_newer_version_for_the_waiting_row_lets_the_older_one_go(self):
        asked = Asked(3, 0, 0, 0)
        asked.right(1, 3)
        asked.left(1, 7)
        asked.left_mark(50)
        asked.right(1, 8)
        self.assertEqual(asked.rights(), [1, 2])
        asked.right(1, 5)
        self.assertEqual(asked.rights(), [2, 3])


if __name__ == "__main__":
    unittest.main()
