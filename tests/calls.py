"""Asks joinedstreams.joins.answers with one tuple a call, and parts what it gives back."""

from joinedstreams.joins import answers

BIGGEST = 4294967295


def begin(sort, ahead, after, eager):
    return (0, sort, ahead, after, eager)


def left(key, time):
    return (1, key, time)


def right(key, time):
    return (2, key, time)


def left_mark(time):
    return (3, time)


def right_mark(time):
    return (4, time)


def lefts():
    return (5,)


def rights():
    return (6,)


def counts():
    return (7,)


def at(key, time):
    return (8, key, time)


def ask(*calls):
    """The answer of each call, as a list of lists."""
    numbers = answers([number for call in calls for number in call])
    parted = []
    place = 0
    while place < len(numbers):
        end = place + 1 + numbers[place]
        parted.append(numbers[place + 1:end])
        place = end
    assert place == len(numbers), numbers
    assert len(parted) == len(calls), parted
    return parted


def last(*calls):
    """The answer of the last call."""
    return ask(*calls)[-1]


def changes(*triples):
    """Changes as they are answered."""
    return [len(triples)] + [number for triple in triples for number in triple]


def kept(*rows):
    """Kept rows as lefts and rights answer them: of each its number, key, time, 1 or 0."""
    return [len(rows)] + [number for row in rows for number in row]


def numbers_kept(answer):
    """The numbers alone of the rows that an answer of lefts or rights tells."""
    assert len(answer) == 1 + 4 * answer[0], answer
    return answer[1::4]
