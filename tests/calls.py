"""Asks joinedstreams.joins.answers with one tuple a call, and parts what it gives back."""

from joinedstreams.joins import answers

BIGGEST = 4294967295


def begin(sort, ahead, after, eager):
    return (0, sort, ahead, after, eager)


def left(key, time):
    return (1, key, time)


def right(key, time):
    return (2, key, time)


def left_mark(time):
    return (3, time)


def right_mark(time):
    return (4, time)


def ask(*calls):
    """The answer of each call, as a list of lists."""
    numbers = answers([number for call in calls for number in call])
    parted = []
    place = 0
    while place < len(numbers):
        end = place + 1 + numbers[place]
        parted.append(numbers[place + 1:end])
        place = end
    assert place == len(numbers), numbers
    assert len(parted) == len(calls), parted
    return parted


def last(*calls):
    """The answer of the last call."""
    return ask(*calls)[-1]


def changes(*triples):
    """Changes as they are answered."""
    return [len(triples)] + [number for triple in triples for number in triple]
