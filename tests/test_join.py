"""What stands told is at every moment the join of all that was taken since begin.

The join is computed here from every row that was ever taken, kept or not, and
the changes of each call are to lead from one such join to the next, in order.
What lefts, rights, counts and at answer is computed from all these rows, too.
"""

import random
import unittest

from tests.calls import ask, at, begin, counts, kept, left, left_mark, lefts, right, right_mark, rights

BEGINS = ((0, 0), (1, 0), (1, 1), (2, 0), (2, 1), (3, 0))
SIDES = {left: 1, left_mark: 1, lefts: 1, right: 2, right_mark: 2, rights: 2}
CHANGING = (left, left, right, right, left_mark, right_mark)
ASKING = (lefts, rights, counts, at)


class Told:
    """All rows taken, the marks, and the join that these make."""

    def __init__(self, sort, ahead, after, eager):
        self.sort, self.ahead, self.after, self.eager = sort, ahead, after, eager
        self.rows = {1: [], 2: []}
        self.marks = {1: 0, 2: 0}
        self.put_aside = 0

    def take(self, side, key, time):
        if time < self.marks[side]:
            self.put_aside += 1
            return 0
        self.rows[side].append((len(self.rows[side]) + 1, key, time))
        return len(self.rows[side])

    def join(self):
        if self.sort == 3:
            return {self.asked(row) for row in self.rows[1] if self.marks[2] > row[2]}
        return self.pairs() | self.alone(1) | self.alone(2)

    def asked(self, row):
        return (row[0], self.holding(row[1], row[2])[1])

    def holding(self, key, time):
        """The time and number of the version that holds, of all that have come."""
        versions = [(row[2], row[0]) for row in self.rows[2] if row[1] == key and row[2] <= time]
        return max(versions, default=(0, 0))

    def pairs(self):
        return {(one[0], two[0]) for one in self.rows[1] for two in self.rows[2]
                if one[1] == two[1] and -self.after <= one[2] - two[2] <= self.ahead}

    def alone(self, side):
        if self.sort < (1 if side == 1 else 2):
            return set()
        met = {pair[side - 1] for pair in self.pairs()}
        told = set()
        for number, key, time in self.rows[side]:
            if number not in met and (self.eager or not self.wanted(side, time)):
                told.add((number, 0) if side == 1 else (0, number))
        return told

    def wanted(self, side, time):
        """Whether any time that could still come on the other side is near enough."""
        span = self.after if side == 1 else self.ahead
        return self.marks[3 - side] <= min(time + span, 1000000)

    def answer(self, call):
        """What a call that only asks is to answer."""
        if call[0] == counts:
            return [len(self.rows[1]), len(self.rows[2]), self.put_aside, self.marks[1], self.marks[2]]
        if call[0] == at:
            return self.at(*call[1:])
        side = SIDES[call[0]]
        met = {pair[side - 1] for pair in self.pairs()} if self.sort < 3 else ()
        return kept(*[(*row, int(row[0] in met)) for row in self.rows[side] if self.is_kept(side, row)])

    def at(self, key, time):
        if self.sort < 3:
            return [-4]
        if time > 1000000:
            return [-2]
        if time < self.marks[1]:
            return [-5]
        version_time, number = self.holding(key, time)
        return [number, version_time] if number else [0]

    def is_kept(self, side, row):
        if self.sort < 3:
            return self.wanted(side, row[2])
        if side == 1:
            return self.marks[2] <= row[2]
        times = [waits[2] for waits in self.rows[1] if waits[1] == row[1] and self.is_kept(1, waits)]
        # What holds changes at the times of versions alone: to look there and at the mark is enough.
        times.extend(time for time in [self.marks[1]] + [version[2] for version in self.rows[2]]
                     if self.marks[1] <= time <= 1000000)
        return any(self.holding(row[1], time)[1] == row[0] for time in times)

    def order(self, call, change):
        """What the changes of one call are ordered by."""
        told, one, two = change
        if call in (left, right):
            return (two if call == left else one, told)
        if self.sort == 3:
            return (self.rows[1][one - 1][2], one)
        return max(one, two)


def some_calls(numbers, lowest, many, kinds):
    """Calls as tuples of the one that makes it and its numbers; times go up from the lowest."""
    made = []
    for place in range(many):
        call = numbers.choice(kinds)
        if call in (left, right):
            made.append((call, numbers.randrange(2), min(lowest + numbers.randrange(16), 1000000)))
        elif call in (left_mark, right_mark):
            made.append((call, min(lowest + place * 12 // many + numbers.randrange(3), 1000001)))
        elif call == at:
            made.append((call, numbers.randrange(2), min(lowest + numbers.randrange(20), 1000001)))
        else:
            made.append((call,))
    return made


def some_begin(numbers, sort, eager):
    """The numbers of a begin that is accepted."""
    if sort == 3:
        return (3, 0, 0, 0)
    return (sort, numbers.choice((0, 1, 3, 100000)), numbers.randrange(4), eager)


class Join(unittest.TestCase):
    def follow(self, first, calls):
        told = Told(*first)
        standing = set()
        got = ask(begin(*first), *[call[0](*call[1:]) for call in calls])
        for call, answer in zip(calls, got[1:]):
            if call[0] in ASKING:
                self.assertEqual(answer, told.answer(call))
                continue
            side = SIDES[call[0]]
            if call[0] in (left, right):
                self.assertEqual(answer[0], told.take(side, *call[1:]))
                answer = answer[1:]
            elif call[1] < told.marks[side]:
                self.assertEqual(answer, [-2])
                continue
            else:
                told.marks[side] = call[1]
            changes = [tuple(answer[place:place + 3]) for place in range(1, len(answer), 3)]
            self.assertEqual(answer[0], len(changes))
            for change in changes:
                self.assertEqual(change[1:] in standing, change[0] == 0)
                standing ^= {change[1:]}
            self.assertEqual(standing, told.join())
            self.assertEqual(changes, sorted(changes, key=lambda change: told.order(call[0], change)))

    def test_many_lists_of_calls(self):
        numbers = random.Random(20)
        for sort, eager in BEGINS:
            for turn in range(240):
                first = some_begin(numbers, sort, eager)
                lowest = numbers.choice((0, 0, 500, 999985, 999990))
                calls = some_calls(numbers, lowest, 59, CHANGING if turn % 2 else CHANGING + ASKING)
                with self.subTest(first=first, turn=turn):
                    self.follow(first, calls)

    def test_what_is_asked_between_two_calls_changes_nothing(self):
        numbers = random.Random(21)
        for sort, eager in BEGINS:
            for turn in range(60):
                first = begin(*some_begin(numbers, sort, eager))
                lowest = numbers.choice((0, 500, 999990))
                changing = [call[0](*call[1:]) for call in some_calls(numbers, lowest, 11, CHANGING)]
                asking = (lefts(), rights(), counts(), at(numbers.randrange(2), lowest + numbers.randrange(16)))
                woven = [first]
                for call in changing:
                    woven.extend((*asking, call))
                with self.subTest(first=first, turn=turn):
                    self.assertEqual(ask(*woven)[::5], ask(first, *changing))


if __name__ == "__main__":
    unittest.main()
