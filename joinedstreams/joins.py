"""The calls on one join: read from a list of whole numbers, answered in another."""

from joinedstreams.streams import AS_OF_SORT, LAST_TIME, Join, holding_version, mark_goes_up, row_comes

BEGIN = 0
LEFT = 1
RIGHT = 2
LEFT_MARK = 3
RIGHT_MARK = 4
LEFTS = 5
RIGHTS = 6
COUNTS = 7

# For each call's own number, how many numbers stand behind it.
ARGUMENTS = {0: 4, 1: 2, 2: 2, 3: 1, 4: 1, 5: 0, 6: 0, 7: 0, 8: 2}

FARTHEST = 100000


def answers(calls):
    """What each call answers, in order, each with how many numbers it has ahead of it."""
    join = Join(0, 10, 10, 0)
    numbers = []
    place = 0
    while place < len(calls):
        call = calls[place]
        end = place + 1 + ARGUMENTS[call]
        given = calls[place + 1:end]
        if call == BEGIN:
            answer = [begin_refusal(given[0], given[1], given[2], given[3])]
            if answer[0] == 0:
                join = Join(given[0], given[1], given[2], given[3])
        else:
            answer = call_answer(join, call, given)
        numbers.append(len(answer))
        numbers.extend(answer)
        place = end
    return numbers


def begin_refusal(kind, ahead, after, eager):
    """The first reason to refuse a begin of this kind (its sort), or 0 if it is accepted."""
    if kind > AS_OF_SORT:
        return -1
    if ahead > FARTHEST or after > FARTHEST:
        return -2
    if kind == AS_OF_SORT and (ahead != 0 or after != 0):
        return -2
    if eager > 1:
        return -3
    if eager != 0 and kind in (0, AS_OF_SORT):
        return -3
    return 0


def call_answer(join, call, given):
    """What a call other than begin answers."""
    if call == LEFT:
        return row_answer(join, join.left, given[0], given[1])
    if call == RIGHT:
        return row_answer(join, join.right, given[0], given[1])
    if call == LEFT_MARK:
        return mark_answer(join, join.left, given[0])
    if call == RIGHT_MARK:
        return mark_answer(join, join.right, given[0])
    if call == LEFTS:
        return kept_answer(join.left)
    if call == RIGHTS:
        return kept_answer(join.right)
    if call == COUNTS:
        return counts_answer(join)
    # The one call that is left over is at.
    return at_answer(join, given[0], given[1])


def row_answer(join, side, key, time):
    """What left or right answers."""
    if time > LAST_TIME:
        return [-2]
    if time < side.mark:
        side.put_aside += 1
        return [0, 0]
    row = side.take(key, time)
    return [row.number] + counted(row_comes(join, side, row))


def mark_answer(join, side, time):
    """What left mark or right mark answers."""
    if time < side.mark:
        return [-2]
    if time > LAST_TIME + 1:
        return [-3]
    return counted(mark_goes_up(join, side, time))


def kept_answer(side):
    """What lefts or rights answers."""
    return counted([(row.number, row.key, row.time, 1 if row.met else 0) for row in side.kept])


def counts_answer(join):
    """What counts answers."""
    left = join.left
    right = join.right
    return [left.taken, right.taken, left.put_aside + right.put_aside, left.mark, right.mark]


def at_answer(join, key, time):
    """What at answers."""
    if not join.by_moment:
        return [-4]
    if time > LAST_TIME:
        return [-2]
    if time < join.left.mark:
        return [-5]
    # A left row could still come at this time, so the version that holds then is kept.
    version = holding_version(join.right.kept, key, time)
    if version is None:
        return [0]
    return [version.number, version.time]


def counted(parts):
    """How many parts (changes or kept rows) there are, then the numbers of each."""
    numbers = [len(parts)]
    for part in parts:
        numbers.extend(part)
    return numbers
