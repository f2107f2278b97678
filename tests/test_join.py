"""What stands told is at every moment the join of all that was taken since begin.

The join is computed here from every row that was ever taken, kept or not, and
the changes of each call are to lead from one such join to the next, in order.
"""

import random
import unittest

from tests.calls import ask, begin, left, left_mark, right, right_mark

BEGINS = ((0, 0), (1, 0), (1, 1), (2, 0), (2, 1), (3, 0))


class Told:
    """All rows taken, the marks, and the join that these make."""

    def __init__(self, sort, ahead, after, eager):
        self.sort, self.ahead, self.after, self.eager = sort, ahead, after, eager
        self.rows = {1: [], 2: []}
        self.marks = {1: 0, 2: 0}

    def take(self, side, key, time):
        if time < self.marks[side]:
            return 0
        self.rows[side].append((len(self.rows[side]) + 1, key, time))
        return len(self.rows[side])

    def join(self):
        if self.sort == 3:
            return {self.asked(row) for row in self.rows[1] if self.marks[2] > row[2]}
        return self.pairs() | self.alone(1) | self.alone(2)

    def asked(self, row):
        versions = [(time, number) for number, key, time in self.rows[2] if key == row[1] and time <= row[2]]
        return (row[0], max(versions, default=(0, 0))[1])

    def pairs(self):
        return {(one[0], two[0]) for one in self.rows[1] for two in self.rows[2]
                if one[1] == two[1] and -self.after <= one[2] - two[2] <= self.ahead}

    def alone(self, side):
        if self.sort < (1 if side == 1 else 2):
            return set()
        met = {pair[side - 1] for pair in self.pairs()}
        told = set()
        for number, key, time in self.rows[side]:
            if number not in met and (self.eager or not self.wanted(side, time)):
                told.add((number, 0) if side == 1 else (0, number))
        return told

    def wanted(self, side, time):
        """Whether any time that could still come on the other side is near enough."""
        span = self.after if side == 1 else self.ahead
        return self.marks[3 - side] <= min(time + span, 1000000)

    def order(self, call, change):
        """What the changes of one call are ordered by."""
        told, one, two = change
        if call in (left, right):
            return (two if call == left else one, told)
        if self.sort == 3:
            return (self.rows[1][one - 1][2], one)
        return max(one, two)


class Join(unittest.TestCase):
    def calls(self, numbers, lowest):
        made = []
        for place in range(59):
            time = min(lowest + numbers.randrange(16), 1000000)
            call = numbers.choice((left, left, right, right, left_mark, right_mark))
            if call in (left, right):
                made.append((call, numbers.randrange(2), time))
            else:
                made.append((call, min(lowest + place // 5 + numbers.randrange(3), 1000001)))
        return made

    def follow(self, first, calls):
        told = Told(*first)
        standing = set()
        got = ask(begin(*first), *[call[0](*call[1:]) for call in calls])
        for call, answer in zip(calls, got[1:]):
            if call[0] in (left, right):
                self.assertEqual(answer[0], told.take(1 if call[0] == left else 2, *call[1:]))
                answer = answer[1:]
            else:
                side = 1 if call[0] == left_mark else 2
                if call[1] < told.marks[side]:
                    self.assertEqual(answer, [-2])
                    continue
                told.marks[side] = call[1]
            changes = [tuple(answer[place:place + 3]) for place in range(1, len(answer), 3)]
            self.assertEqual(answer[0], len(changes))
            for change in changes:
                self.assertEqual(change[1:] in standing, change[0] == 0)
                standing ^= {change[1:]}
            self.assertEqual(standing, told.join())
            self.assertEqual(changes, sorted(changes, key=lambda change: told.order(call[0], change)))

    def test_many_lists_of_calls(self):
        numbers = random.Random(20)
        for sort, eager in BEGINS:
            for turn in range(120):
                lowest = numbers.choice((0, 0, 500, 999985, 999990))
                ahead, after = (0, 0) if sort == 3 else (numbers.choice((0, 1, 3, 100000)), numbers.randrange(4))
                calls = self.calls(numbers, lowest)
                with self.subTest(first=(sort, ahead, after, eager), turn=turn):
                    self.follow((sort, ahead, after, eager), calls)


if __name__ == "__main__":
    unittest.main()
