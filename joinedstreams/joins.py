"""The calls on one join: read from a list of whole numbers, answered in another."""

from joinedstreams.streams import AS_OF_SORT, LAST_TIME, Join, mark_goes_up, row_comes

BEGIN = 0
LEFT = 1
RIGHT = 2
LEFT_MARK = 3

# For each call's own number, how many numbers stand behind it.
ARGUMENTS = {0: 4, 1: 2, 2: 2, 3: 1, 4: 1}

FARTHEST = 100000


def answers(calls):
    """What each call answers, in order, each with how many numbers it has ahead of it."""
    join = Join(0, 10, 10, 0)
    numbers = []
    place = 0
    while place < len(calls):
        call = calls[place]
        end = place + 1 + ARGUMENTS[call]
        given = calls[place + 1:end]
        if call == BEGIN:
            answer = [begin_refusal(given[0], given[1], given[2], given[3])]
            if answer[0] == 0:
                join = Join(given[0], given[1], given[2], given[3])
        else:
            answer = call_answer(join, call, given)
        numbers.append(len(answer))
        numbers.extend(answer)
        place = end
    return numbers


def begin_refusal(kind, ahead, after, eager):
    """The first reason to refuse a begin of this kind (its sort), or 0 if it is accepted."""
    if kind > AS_OF_SORT:
        return -1
    if ahead > FARTHEST or after > FARTHEST:
        return -2
    if kind == AS_OF_SORT and (ahead != 0 or after != 0):
        return -2
    if eager > 1:
        return -3
    if eager != 0 and kind in (0, AS_OF_SORT):
        return -3
    return 0


def call_answer(join, call, given):
    """What a call other than begin answers."""
    if call == LEFT:
        return row_answer(join, join.left, given[0], given[1])
    if call == RIGHT:
        return row_answer(join, join.right, given[0], given[1])
    if call == LEFT_MARK:
        return mark_answer(join, join.left, given[0])
    # The one call left is right mark.
    return mark_answer(join, join.right, given[0])


def row_answer(join, side, key, time):
    """What left or right answers."""
    if time > LAST_TIME:
        return [-2]
    if time < side.mark:
        return [0, 0]
    row = side.take(key, time)
    return [row.number] + counted(row_comes(join, side, row))


def mark_answer(join, side, time):
    """What left mark or right mark answers."""
    if time < side.mark:
        return [-2]
    if time > LAST_TIME + 1:
        return [-3]
    return counted(mark_goes_up(join, side, time))


def counted(changes):
    """How many changes there are, then the three numbers of each."""
    numbers = [len(changes)]
    for change in changes:
        numbers.extend(change)
    return numbers
