"""The form of what answers gives back, and that it leaves what it was handed alone."""

import unittest

from joinedstreams.joins import answers
from tests.calls import BIGGEST


class Untouchable(list):
    """A list that can be read only."""

    def refuse(self, *given, **named):
        raise AssertionError("the list handed in was changed")

    append = clear = extend = insert = pop = remove = reverse = sort = refuse
    __setitem__ = __delitem__ = __iadd__ = __imul__ = refuse


class Form(unittest.TestCase):
    def test_the_count_then_the_numbers(self):
        self.assertEqual(answers([0, 2, 5, 5, 1]), [1, 0])
        self.assertEqual(answers([0, 4, 5, 5, 1]), [1, -1])
        self.assertEqual(answers([1, 7, 1000001]), [1, -2])
        self.assertEqual(answers([3, 1000002]), [1, -3])
        self.assertEqual(answers([1, 7, 5]), [2, 1, 0])
        self.assertEqual(answers([3, 6, 1, 7, 5]), [1, 0, 2, 0, 0])
        self.assertEqual(answers([1, 7, 5, 2, 7, 5]), [2, 1, 0, 5, 1, 1, 1, 1, 1])
        self.assertEqual(answers([0, 2, 5, 5, 1, 1, 7, 5, 2, 7, 5, 4, 100]),
                         [1, 0, 5, 1, 1, 1, 1, 0, 8, 1, 2, 0, 1, 0, 1, 1, 1, 1, 0])
        self.assertEqual(answers([0, 2, 0, 0, 0, 1, 7, 5, 2, 8, 5, 4, 6, 3, 6]),
                         [1, 0, 2, 1, 0, 2, 1, 0, 4, 1, 1, 1, 0, 4, 1, 1, 0, 1])

    def test_of_the_calls_that_ask(self):
        self.assertEqual(answers([5]), [1, 0])
        self.assertEqual(answers([6]), [1, 0])
        self.assertEqual(answers([7]), [5, 0, 0, 0, 0, 0])
        self.assertEqual(answers([8, 7, 5]), [1, -4])
        self.assertEqual(answers([0, 3, 0, 0, 0, 8, 7, 5, 8, 7, 1000001, 3, 6, 8, 7, 5]),
                         [1, 0, 1, 0, 1, -2, 1, 0, 1, -5])
        self.assertEqual(answers([0, 3, 0, 0, 0, 2, 7, 5, 8, 7, 6]), [1, 0, 2, 1, 0, 2, 1, 5])
        self.assertEqual(answers([1, 7, 5, 1, 8, 9, 2, 8, 9, 5, 6]),
                         [2, 1, 0, 2, 2, 0, 5, 1, 1, 1, 2, 1, 9, 2, 1, 7, 5, 0, 2, 8, 9, 1, 5, 1, 1, 8, 9, 1])
        self.assertEqual(answers([3, 6, 4, 9, 1, 7, 5, 1, 7, 6, 7]),
                         [1, 0, 1, 0, 2, 0, 0, 2, 1, 0, 5, 1, 0, 1, 6, 9])

    def test_plain_whole_numbers_in_a_plain_list(self):
        got = answers([0, 2, 5, 5, 1, 1, 7, 5, 2, 7, 5, 1, 8, 5, 5, 6, 7, 8, 1, 1, 4, 100, 3, 99, 1, 1, 1,
                       0, 9, 9, 9, 9, 0, 3, 0, 0, 0, 1, 1, 1, 2, 1, 1, 5, 6, 8, 1, 1, 4, 2, 1, 1, 1, 7])
        self.assertIs(type(got), list)
        for number in got:
            self.assertIs(type(number), int)

    def test_the_greatest_numbers(self):
        self.assertEqual(answers([0, BIGGEST, BIGGEST, BIGGEST, BIGGEST, 1, BIGGEST, BIGGEST, 2, BIGGEST, BIGGEST,
                                  3, BIGGEST, 4, BIGGEST, 1, BIGGEST, 1000000, 2, BIGGEST, 1000000]),
                         [1, -1, 1, -2, 1, -2, 1, -3, 1, -3, 2, 1, 0, 5, 1, 1, 1, 1, 1])
        self.assertEqual(answers([0, 3, 0, 0, 0, 2, BIGGEST, 1000000, 8, BIGGEST, BIGGEST, 8, BIGGEST, 1000000, 6]),
                         [1, 0, 2, 1, 0, 1, -2, 2, 1, 1000000, 5, 1, 1, BIGGEST, 1000000, 0])

    def test_sixty_calls(self):
        got = answers([1, 1, 1] * 30 + [2, 1, 1] * 30)
        wanted = []
        for number in range(1, 31):
            wanted.extend([2, number, 0])
        for number in range(1, 31):
            wanted.extend([92, number, 30])
            for partner in range(1, 31):
                wanted.extend([1, partner, number])
        self.assertEqual(got, wanted)

    def test_sixty_calls_that_ask(self):
        got = answers([0, 3, 0, 0, 0, 2, 7, 5, 1, 7, 6] + [5, 6, 7, 8, 7, 6] * 14 + [8, 7, 4])
        asked = [5, 1, 1, 7, 6, 0, 5, 1, 1, 7, 5, 0, 5, 1, 1, 0, 0, 0, 2, 1, 5]
        self.assertEqual(got, [1, 0, 2, 1, 0, 2, 1, 0] + asked * 14 + [1, 0])


class LeftAlone(unittest.TestCase):
    CALLS = ([0, 2, 5, 5, 1, 1, 7, 5, 2, 7, 5, 4, 100, 3, 99, 1, 7, 100],
             [0, 3, 0, 0, 0, 1, 7, 5, 2, 7, 5, 4, 100, 3, 99, 1, 7, 100],
             [0, 1, 2, 2, 0, 1, 7, 5, 2, 7, 5, 1, 8, 5, 5, 6, 7, 8, 7, 5, 4, 9, 5, 6, 7],
             [0, 3, 0, 0, 0, 2, 7, 5, 2, 7, 3, 1, 7, 4, 5, 6, 7, 8, 7, 5, 3, 6, 8, 7, 5, 4, 9, 5, 6, 7],
             [5, 6, 7, 8, 7, 5],
             [1, 7, 5, 2, 7, 5])

    def test_the_list_is_as_it_was(self):
        for calls in self.CALLS:
            handed = list(calls)
            answers(handed)
            self.assertEqual(handed, calls)

    def test_not_changed_for_a_while_either(self):
        for calls in self.CALLS:
            self.assertEqual(answers(Untouchable(calls)), answers(list(calls)))

    def test_what_is_given_back_is_the_askers_own(self):
        for calls in self.CALLS:
            given = answers(list(calls))
            once = list(given)
            given.clear()
            self.assertEqual(answers(list(calls)), once)

    def test_one_time_does_not_know_of_the_other(self):
        first = {}
        for place, calls in enumerate(self.CALLS):
            first[place] = answers(list(calls))
        for place, calls in reversed(list(enumerate(self.CALLS))):
            self.assertEqual(answers(list(calls)), first[place])
        answers([0, 1, 0, 0, 1, 3, 500, 4, 500, 1, 7, 500, 2, 7, 501])
        self.assertEqual(answers([1, 7, 5, 2, 7, 15, 3, 0, 4, 0]), [2, 1, 0, 5, 1, 1, 1, 1, 1, 1, 0, 1, 0])
        self.assertEqual(answers([5, 6, 7, 8, 7, 5]), [1, 0, 1, 0, 5, 0, 0, 0, 0, 0, 1, -4])


if __name__ == "__main__":
    unittest.main()
