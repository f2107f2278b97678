"""lefts and rights: the rows that something could still come for, and no others."""

import unittest

from tests.calls import (BIGGEST, ask, at, begin, kept, last, left, left_mark, lefts, numbers_kept, right,
                         right_mark, rights)

EAGERS = ((0, 0), (1, 0), (1, 1), (2, 0), (2, 1))
MOMENTS = begin(3, 0, 0, 0)


def windows(ahead, after):
    """A begin of each sort but 3, told at once and at the end."""
    return [begin(sort, ahead, after, eager) for sort, eager in EAGERS]


class Asking(unittest.TestCase):
    def left_kept(self, *calls):
        """The numbers of the left rows kept behind these calls."""
        return numbers_kept(last(*calls, lefts()))

    def right_kept(self, *calls):
        """The numbers of the right rows kept behind these calls."""
        return numbers_kept(last(*calls, rights()))


class HowTheyAreTold(Asking):
    def test_nothing_kept(self):
        for first in windows(3, 4) + [MOMENTS]:
            self.assertEqual(ask(first, lefts(), rights()), [[0], [0], [0]])

    def test_of_each_its_number_key_time_and_whether_it_met(self):
        for first in windows(3, 4):
            got = ask(first, left(7, 12), right(8, 12), left(BIGGEST, 0), right(0, 1000000), left(8, 14),
                      lefts(), rights())
            self.assertEqual(got[6], kept((1, 7, 12, 0), (2, BIGGEST, 0, 0), (3, 8, 14, 1)))
            self.assertEqual(got[7], kept((1, 8, 12, 1), (2, 0, 1000000, 0)))

    def test_by_number_and_not_by_time_or_key(self):
        for first in windows(3, 4) + [MOMENTS]:
            got = ask(first, left(5, 90), left(9, 30), left(1, 60), left(5, 20), right(6, 90), right(9, 40),
                      right(2, 70), right(6, 20), lefts(), rights())
            self.assertEqual(numbers_kept(got[9]), [1, 2, 3, 4])
            self.assertEqual(numbers_kept(got[10]), [1, 2, 3, 4])

    def test_the_numbers_of_rows_that_have_gone_are_left_out(self):
        for first in windows(0, 0):
            got = ask(first, left(1, 9), left(1, 5), left(2, 9), right_mark(6), left(3, 5), left(3, 6), lefts())
            self.assertEqual(got[-1], kept((1, 1, 9, 0), (3, 2, 9, 0), (5, 3, 6, 0)))
            got = ask(first, right(1, 9), right(1, 5), right(2, 9), left_mark(6), right(3, 5), right(3, 6), rights())
            self.assertEqual(got[-1], kept((1, 1, 9, 0), (3, 2, 9, 0), (5, 3, 6, 0)))


class WhetherItMet(Asking):
    def test_both_that_met_stay_kept_and_are_told_with_1(self):
        for first in windows(3, 4):
            for one, two in ((left(1, 10), right(1, 11)), (right(1, 11), left(1, 10))):
                got = ask(first, one, two, left_mark(14), right_mark(14), lefts(), rights())
                self.assertEqual(got[5:], [kept((1, 1, 10, 1)), kept((1, 1, 11, 1))])
                got = ask(first, one, two, left_mark(15), right_mark(15), lefts(), rights())
                self.assertEqual(got[5:], [[0], [0]])

    def test_it_has_met_also_when_the_other_has_gone(self):
        for first in windows(3, 4):
            got = ask(first, left(1, 10), right(1, 7), left_mark(11), lefts(), rights(), right(1, 14), lefts())
            self.assertEqual(got[4:6], [kept((1, 1, 10, 1)), [0]])
            self.assertEqual(got[7], kept((1, 1, 10, 1)))

    def test_a_row_that_meets_as_it_comes_and_is_not_wanted(self):
        for first in windows(3, 4):
            got = ask(first, right(1, 10), right_mark(50), left(1, 11), lefts(), rights())
            self.assertEqual(got[4:], [[0], kept((1, 1, 10, 1))])
            got = ask(first, left(1, 10), left_mark(50), right(1, 9), lefts(), rights())
            self.assertEqual(got[4:], [kept((1, 1, 10, 1)), [0]])

    def test_one_that_does_not_meet_it_leaves_it_at_0(self):
        for first in windows(3, 4):
            got = ask(first, left(1, 10), right(1, 6), right(1, 15), right(2, 10), lefts(), rights())
            self.assertEqual(got[5], kept((1, 1, 10, 0)))
            self.assertEqual(got[6], kept((1, 1, 6, 0), (2, 1, 15, 0), (3, 2, 10, 0)))

    def test_rows_of_its_own_side_are_not_met(self):
        for first in windows(3, 4):
            self.assertEqual(last(first, left(1, 10), left(1, 10), lefts()), kept((1, 1, 10, 0), (2, 1, 10, 0)))
            self.assertEqual(last(first, right(1, 10), right(1, 10), rights()), kept((1, 1, 10, 0), (2, 1, 10, 0)))


class WhoGoes(Asking):
    def test_left_rows_at_the_edge_of_after(self):
        for after in (0, 1, 4, 100000):
            for first in windows(3, after):
                self.assertEqual(self.left_kept(first, left(1, 10), right_mark(10 + after)), [1])
                self.assertEqual(self.left_kept(first, left(1, 10), right_mark(11 + after)), [])
                self.assertEqual(self.left_kept(first, right_mark(10 + after), left(1, 10)), [1])
                self.assertEqual(self.left_kept(first, right_mark(11 + after), left(1, 10)), [])

    def test_right_rows_at_the_edge_of_ahead(self):
        for ahead in (0, 1, 3, 100000):
            for first in windows(ahead, 4):
                self.assertEqual(self.right_kept(first, right(1, 10), left_mark(10 + ahead)), [1])
                self.assertEqual(self.right_kept(first, right(1, 10), left_mark(11 + ahead)), [])
                self.assertEqual(self.right_kept(first, left_mark(10 + ahead), right(1, 10)), [1])
                self.assertEqual(self.right_kept(first, left_mark(11 + ahead), right(1, 10)), [])

    def test_at_1000000(self):
        for first in windows(100000, 100000):
            for time in (900000, 900001, 1000000):
                for mark, still in ((1000000, [1]), (1000001, [])):
                    self.assertEqual(self.left_kept(first, left(1, time), right_mark(mark)), still)
                    self.assertEqual(self.left_kept(first, right_mark(mark), left(1, time)), still)
                    self.assertEqual(self.right_kept(first, right(1, time), left_mark(mark)), still)
                    self.assertEqual(self.right_kept(first, left_mark(mark), right(1, time)), still)
            self.assertEqual(self.left_kept(first, left(1, 899999), right_mark(1000000)), [])
            self.assertEqual(self.right_kept(first, right(1, 899999), left_mark(1000000)), [])

    def test_its_own_sides_mark_lets_no_row_go(self):
        for first in windows(0, 0):
            self.assertEqual(self.left_kept(first, left(1, 10), left_mark(1000001)), [1])
            self.assertEqual(self.right_kept(first, right(1, 10), right_mark(1000001)), [1])

    def test_those_alone_and_those_that_met_go_alike(self):
        for first in windows(3, 4):
            got = ask(first, left(1, 10), left(2, 10), left(3, 11), right(1, 10), right_mark(15), lefts())
            self.assertEqual(got[6], kept((3, 3, 11, 0)))
            got = ask(first, right(1, 10), right(2, 10), right(3, 11), left(1, 10), left_mark(14), rights())
            self.assertEqual(got[6], kept((3, 3, 11, 0)))

    def test_a_refused_mark_lets_no_row_go(self):
        for first in windows(0, 0) + [MOMENTS]:
            got = ask(first, left(1, 10), right(1, 10), left_mark(1000002), right_mark(1000002), lefts(), rights())
            self.assertEqual(got[3:5], [[-3], [-3]])
            self.assertEqual([numbers_kept(answer) for answer in got[5:]], [[1], [1]])


class NeverKept(Asking):
    def test_a_row_put_aside(self):
        for first in windows(3, 4) + [MOMENTS]:
            got = ask(first, left_mark(10), right_mark(10), left(1, 9), right(2, 9), lefts(), rights())
            self.assertEqual(got[3:], [[0, 0], [0, 0], [0], [0]])

    def test_a_row_refused(self):
        for first in windows(3, 4) + [MOMENTS]:
            got = ask(first, left(1, 1000001), right(2, 1000001), left(1, BIGGEST), right(2, BIGGEST),
                      lefts(), rights())
            self.assertEqual(got[1:], [[-2], [-2], [-2], [-2], [0], [0]])


class Begins(Asking):
    def test_an_accepted_begin_lets_all_go_and_a_refused_one_none(self):
        for first in windows(3, 4):
            got = ask(first, left(1, 10), right(2, 10), begin(4, 0, 0, 0), begin(3, 0, 1, 0), begin(0, 0, 0, 1),
                      lefts(), rights(), begin(2, 3, 4, 1), lefts(), rights())
            self.assertEqual(got[3:6], [[-1], [-2], [-3]])
            self.assertEqual(got[6:8], [kept((1, 1, 10, 0)), kept((1, 2, 10, 0))])
            self.assertEqual(got[8:], [[0], [0], [0]])

    def test_in_sort_3(self):
        got = ask(MOMENTS, left(1, 10), right(2, 10), begin(3, 1, 0, 0), lefts(), rights(), MOMENTS, lefts(), rights())
        self.assertEqual(got[3:], [[-2], kept((1, 1, 10, 0)), kept((1, 2, 10, 0)), [0], [0], [0]])


class RowsThatWait(Asking):
    def test_they_wait_till_the_right_mark_is_above_their_time(self):
        calls = (MOMENTS, left(1, 5), left(2, 3))
        self.assertEqual(last(*calls, lefts()), kept((1, 1, 5, 0), (2, 2, 3, 0)))
        for mark, still in ((3, [1, 2]), (4, [1]), (5, [1]), (6, [])):
            self.assertEqual(self.left_kept(*calls, right_mark(mark)), still)
        self.assertEqual(self.left_kept(*calls, left_mark(1000001)), [1, 2])

    def test_at_1000000(self):
        self.assertEqual(self.left_kept(MOMENTS, left(1, 1000000), right_mark(1000000)), [1])
        self.assertEqual(self.left_kept(MOMENTS, left(1, 1000000), right_mark(1000001)), [])

    def test_one_that_is_told_at_once_is_never_kept(self):
        got = ask(MOMENTS, right_mark(6), left(1, 5), left(1, 6), lefts())
        self.assertEqual(got[4], kept((2, 1, 6, 0)))

    def test_with_0_though_a_version_holds(self):
        got = ask(MOMENTS, right(1, 5), left(1, 5), lefts(), rights())
        self.assertEqual(got[3:], [kept((1, 1, 5, 0)), kept((1, 1, 5, 0))])
        got = ask(MOMENTS, right(1, 5), right_mark(6), left(1, 5), left(1, 9), lefts(), rights())
        self.assertEqual(got[5:], [kept((2, 1, 9, 0)), kept((1, 1, 5, 0))])


class VersionsForWhatCouldCome(Asking):
    def test_each_version_that_holds_at_some_time_to_come(self):
        got = ask(MOMENTS, right(7, 30), right(BIGGEST, 10), right(7, 0), right(7, 1000000), rights())
        self.assertEqual(got[5], kept((1, 7, 30, 0), (2, BIGGEST, 10, 0), (3, 7, 0, 0), (4, 7, 1000000, 0)))

    def test_goes_when_the_left_mark_is_at_the_next_versions_time(self):
        calls = (MOMENTS, right(1, 3), right(1, 8), right(2, 3))
        for mark, still in ((3, [1, 2, 3]), (7, [1, 2, 3]), (8, [2, 3]), (9, [2, 3]), (1000000, [2, 3]),
                            (1000001, [])):
            self.assertEqual(self.right_kept(*calls, left_mark(mark)), still)

    def test_the_last_version_stays_to_1000000(self):
        for time in (0, 5, 1000000):
            self.assertEqual(self.right_kept(MOMENTS, right(1, time), left_mark(1000000)), [1])
            self.assertEqual(self.right_kept(MOMENTS, right(1, time), left_mark(1000001)), [])
            self.assertEqual(self.right_kept(MOMENTS, left_mark(1000001), right(1, time)), [])
        calls = (MOMENTS, right(1, 5), right(1, 1000000))
        self.assertEqual(self.right_kept(*calls, left_mark(999999)), [1, 2])
        self.assertEqual(self.right_kept(*calls, left_mark(1000000)), [2])

    def test_the_right_mark_alone_lets_none_go(self):
        # Left rows that come behind the right mark are told at once, with these versions.
        calls = (MOMENTS, right(1, 3), right(1, 8), right(2, 1000000))
        for mark in (3, 4, 8, 9, 1000001):
            self.assertEqual(self.right_kept(*calls, right_mark(mark)), [1, 2, 3])

    def test_of_the_same_time_the_lesser_number_goes_at_once(self):
        self.assertEqual(self.right_kept(MOMENTS, right(1, 3), right(2, 3), right(1, 3)), [2, 3])
        self.assertEqual(self.right_kept(MOMENTS, right(1, 3), right(1, 4), right(1, 3), right(1, 3)), [2, 4])
        self.assertEqual(self.right_kept(MOMENTS, left_mark(9), right(1, 3), right(1, 3)), [2])

    def test_goes_when_a_newer_one_comes(self):
        self.assertEqual(self.right_kept(MOMENTS, right(1, 3), left_mark(8), right(1, 8)), [2])
        self.assertEqual(self.right_kept(MOMENTS, right(1, 3), left_mark(8), right(1, 7)), [2])
        self.assertEqual(self.right_kept(MOMENTS, right(1, 3), left_mark(8), right(1, 9)), [1, 2])
        self.assertEqual(self.right_kept(MOMENTS, right(1, 3), left_mark(8), right(2, 8)), [1, 2])

    def test_one_that_holds_at_no_time_to_come_is_never_kept(self):
        self.assertEqual(self.right_kept(MOMENTS, right(1, 8), left_mark(8), right(1, 3)), [1])
        self.assertEqual(self.right_kept(MOMENTS, right(1, 8), left_mark(7), right(1, 3)), [1, 2])
        self.assertEqual(self.right_kept(MOMENTS, right(1, 8), left_mark(9), right(2, 3), right(1, 7)), [1, 2])

    def test_out_of_the_order_of_their_times(self):
        calls = (MOMENTS, right(1, 30), right(1, 10), right(1, 20))
        for mark, still in ((10, [1, 2, 3]), (19, [1, 2, 3]), (20, [1, 3]), (29, [1, 3]), (30, [1])):
            self.assertEqual(self.right_kept(*calls, left_mark(mark)), still)
            self.assertEqual(self.right_kept(MOMENTS, left_mark(mark), *calls[1:]), still)


class VersionsForRowsThatWait(Asking):
    def test_kept_until_the_row_is_told(self):
        calls = (MOMENTS, right(1, 3), right(1, 8), left(1, 7), left(2, 7), left_mark(1000001))
        self.assertEqual(last(*calls, rights()), kept((1, 1, 3, 0)))
        self.assertEqual(self.right_kept(*calls, right_mark(7)), [1])
        self.assertEqual(self.right_kept(*calls, right_mark(8)), [])

    def test_each_row_that_waits_keeps_its_own(self):
        calls = (MOMENTS, right(1, 3), right(1, 5), right(1, 7), right(2, 0), left(1, 8), left(1, 4), left(1, 2),
                 left_mark(1000001))
        for mark, still in ((0, [1, 3]), (4, [1, 3]), (5, [3]), (8, [3]), (9, [])):
            self.assertEqual(self.right_kept(*calls, right_mark(mark)), still)

    def test_one_of_several_rows_is_enough(self):
        calls = (MOMENTS, right(1, 3), left(1, 7), left(1, 4), left_mark(1000001))
        self.assertEqual(self.right_kept(*calls, right_mark(5)), [1])
        self.assertEqual(self.right_kept(*calls, right_mark(8)), [])

    def test_goes_when_a_newer_one_comes_for_the_row(self):
        calls = (MOMENTS, right(1, 3), left(1, 7), left_mark(50))
        self.assertEqual(self.right_kept(*calls, right(1, 8)), [1, 2])
        self.assertEqual(self.right_kept(*calls, right(1, 7)), [2])
        self.assertEqual(self.right_kept(*calls, right(1, 8), right(1, 5)), [2, 3])
        self.assertEqual(self.right_kept(*calls, right(1, 8), right(1, 2)), [1, 2])
        self.assertEqual(self.right_kept(*calls, right(1, 8), right(1, 3)), [2, 3])
        self.assertEqual(self.right_kept(*calls, right(1, 8), right(2, 5)), [1, 2, 3])

    def test_one_that_comes_late_is_kept_for_the_row_alone(self):
        calls = (MOMENTS, left(1, 7), left_mark(1000001))
        self.assertEqual(self.right_kept(*calls, right(1, 8)), [])
        self.assertEqual(self.right_kept(*calls, right(2, 7)), [])
        self.assertEqual(self.right_kept(*calls, right(1, 7)), [1])
        self.assertEqual(self.right_kept(*calls, right(1, 8), right(1, 2), right(1, 6)), [3])

    def test_a_row_told_at_once_keeps_none(self):
        got = ask(MOMENTS, right(1, 3), right(1, 8), right_mark(8), left(1, 7), left_mark(8), rights())
        self.assertEqual(got[6], kept((2, 1, 8, 0)))

    def test_what_has_gone_is_not_missed(self):
        # Version 1 goes behind the left mark; what comes at its time later is not kept either.
        got = ask(MOMENTS, right(1, 3), right(1, 8), left_mark(8), rights(), right(1, 3), rights(), at(1, 8),
                  left(1, 8), right_mark(9))
        self.assertEqual(numbers_kept(got[4]), [2])
        self.assertEqual(numbers_kept(got[6]), [2])
        self.assertEqual(got[7], [2, 8])
        self.assertEqual(got[9], [1, 1, 1, 2])


if __name__ == "__main__":
    unittest.main()
