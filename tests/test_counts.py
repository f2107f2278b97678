"""counts: the rows taken of each side, those put aside of both, and the two marks."""

import unittest

from tests.calls import BIGGEST, ask, at, begin, counts, last, left, left_mark, lefts, right, right_mark, rights

SORTS = (begin(0, 10, 10, 0), begin(1, 10, 10, 1), begin(2, 10, 10, 0), begin(3, 0, 0, 0))


class Counted(unittest.TestCase):
    def test_nothing_yet(self):
        self.assertEqual(ask(counts()), [[0, 0, 0, 0, 0]])
        for first in SORTS:
            self.assertEqual(last(first, counts()), [0, 0, 0, 0, 0])

    def test_rows_taken_of_each_side(self):
        for first in SORTS:
            self.assertEqual(last(first, left(1, 5), left(1, 5), left(2, 9), counts()), [3, 0, 0, 0, 0])
            self.assertEqual(last(first, right(1, 5), right(1, 5), counts()), [0, 2, 0, 0, 0])
            self.assertEqual(last(first, left(1, 5), right(1, 5), left(1, 0), counts()), [2, 1, 0, 0, 0])

    def test_rows_taken_count_though_they_are_not_kept(self):
        for first in SORTS:
            got = ask(first, left(1, 5), right(1, 5), left_mark(500), right_mark(500), counts())
            self.assertEqual(got[5], [1, 1, 0, 500, 500])
            got = ask(first, left_mark(1000001), right(1, 5), lefts(), rights(), counts())
            self.assertEqual(got[3:], [[0], [0], [0, 1, 0, 1000001, 0]])
            got = ask(first, right_mark(1000001), left(1, 5), lefts(), rights(), counts())
            self.assertEqual(got[3:], [[0], [0], [1, 0, 0, 0, 1000001]])

    def test_rows_put_aside_of_both_sides_together(self):
        for first in SORTS:
            self.assertEqual(last(first, left_mark(50), left(1, 49), counts()), [0, 0, 1, 50, 0])
            self.assertEqual(last(first, right_mark(50), right(1, 49), counts()), [0, 0, 1, 0, 50])
            got = ask(first, left_mark(50), right_mark(60), left(1, 49), right(1, 59), right(1, 0), left(1, 50),
                      right(1, 60), left(2, 49), counts())
            self.assertEqual(got[-1], [1, 1, 4, 50, 60])

    def test_the_marks(self):
        for first in SORTS:
            got = ask(first, left_mark(7), counts(), right_mark(9), counts(), left_mark(7), counts(),
                      left_mark(1000001), counts(), right_mark(1000001), counts())
            self.assertEqual(got[2::2], [[0, 0, 0, 7, 0], [0, 0, 0, 7, 9], [0, 0, 0, 7, 9],
                                         [0, 0, 0, 1000001, 9], [0, 0, 0, 1000001, 1000001]])


class NotCounted(unittest.TestCase):
    def test_a_refused_row(self):
        for first in SORTS:
            for time in (1000001, BIGGEST):
                self.assertEqual(last(first, left(1, time), right(1, time), counts()), [0, 0, 0, 0, 0])
            # Ahead of its side's mark, too, a refused row is refused and not put aside.
            got = ask(first, left_mark(1000001), right_mark(1000001), left(1, 1000001), right(1, 1000001), counts())
            self.assertEqual(got[3:], [[-2], [-2], [0, 0, 0, 1000001, 1000001]])

    def test_a_refused_mark(self):
        for first in SORTS:
            got = ask(first, left_mark(50), right_mark(60), left_mark(49), right_mark(59), left_mark(1000002),
                      right_mark(BIGGEST), counts())
            self.assertEqual(got[3:], [[-2], [-2], [-3], [-3], [0, 0, 0, 50, 60]])

    def test_what_is_only_asked(self):
        for first in SORTS:
            calls = (first, left_mark(5), left(1, 5), left(1, 4), right(1, 5), right_mark(3), right(1, 2))
            self.assertEqual(last(*calls, lefts(), rights(), counts(), at(1, 5), at(1, 4), at(1, 1000001), counts()),
                             [1, 1, 2, 5, 3])


class Begins(unittest.TestCase):
    CALLS = (left_mark(50), right_mark(60), left(1, 50), left(1, 49), right(1, 60), right(1, 70), right(1, 2),
             right(1, 3))

    def test_an_accepted_one_sets_all_back(self):
        for first in SORTS:
            for second in SORTS:
                got = ask(first, *self.CALLS, counts(), second, counts(), left(1, 49), right(1, 2), counts())
                self.assertEqual(got[9], [1, 2, 3, 50, 60])
                self.assertEqual(got[11], [0, 0, 0, 0, 0])
                self.assertEqual(got[14], [1, 1, 0, 0, 0])

    def test_a_refused_one_leaves_them(self):
        for first in SORTS:
            for refused in (begin(4, 0, 0, 0), begin(0, 100001, 0, 0), begin(0, 0, 100001, 0), begin(3, 0, 1, 0),
                            begin(0, 0, 0, 1), begin(3, 0, 0, 1), begin(2, 0, 0, 2)):
                got = ask(first, *self.CALLS, refused, counts())
                self.assertLess(got[9][0], 0)
                self.assertEqual(got[10], [1, 2, 3, 50, 60])


if __name__ == "__main__":
    unittest.main()
