"""The rows and marks of two streams: what is kept, and which changes are told.

A change is a tuple: 1 if it is told or 0 if it is taken back, the left row's
number, the right row's number (0: none).
"""

LAST_TIME = 1000000
# The sort in which right rows are versions, and each left row asks for one.
AS_OF_SORT = 3


class Row:
    """A row that was taken; met says whether it has met a row of the other side."""

    def __init__(self, number, key, time):
        self.number = number
        self.key = key
        self.time = time
        self.met = False


class Side:
    """One of the two streams; its kept rows stand by number.

    reach is how much later than its own time a row may meet one of the other side.
    """

    def __init__(self, is_left, reach, tells_alone, eager):
        self.is_left = is_left
        self.reach = reach
        self.tells_at_once = tells_alone and eager == 1
        self.tells_at_end = tells_alone and eager == 0
        self.mark = 0
        self.taken = 0
        self.put_aside = 0
        self.kept = []

    def take(self, key, time):
        """A new row with this side's next number."""
        self.taken += 1
        return Row(self.taken, key, time)

    def alone(self, told, row):
        """The change that tells, or takes back, a row of this side alone."""
        if self.is_left:
            return (told, row.number, 0)
        return (told, 0, row.number)

    def pair(self, row, partner):
        """The change that tells a row of this side with one of the other side."""
        if self.is_left:
            return (1, row.number, partner.number)
        return (1, partner.number, row.number)


class Join:
    """Both sides, at first as they are behind an accepted begin; kind is its sort."""

    def __init__(self, kind, ahead, after, eager):
        self.by_moment = kind == AS_OF_SORT
        self.left = Side(True, after, kind in (1, 2), eager)
        self.right = Side(False, ahead, kind == 2, eager)

    def other(self, side):
        """The side across from this one."""
        if side.is_left:
            return self.right
        return self.left


def row_comes(join, side, row):
    """The changes told as a row of this side comes; it is kept if something still needs it."""
    if not join.by_moment:
        return meet_kept_rows(side, join.other(side), row)
    if side.is_left:
        return ask_or_wait(join, row)
    join.right.kept.append(row)
    drop_versions(join)
    return []


def mark_goes_up(join, side, time):
    """The changes told as this side's mark goes up to the time, or stays there."""
    side.mark = time
    if not join.by_moment:
        return drop_unwanted(join.other(side), time)
    changes = []
    if not side.is_left:
        changes = tell_waiting(join)
    drop_versions(join)
    return changes


def meet_kept_rows(side, other, row):
    """The changes of a new row in sorts 0, 1 and 2."""
    changes = []
    for partner in other.kept:
        if rows_meet(side, row, other, partner):
            if other.tells_at_once and not partner.met:
                changes.append(other.alone(0, partner))
            changes.append(side.pair(row, partner))
            partner.met = True
            row.met = True
    wanted = is_wanted(side, row, other.mark)
    if wanted:
        side.kept.append(row)
    due = side.tells_at_once or (side.tells_at_end and not wanted)
    if due and not row.met:
        changes.append(side.alone(1, row))
    return changes


def rows_meet(side, row, other, partner):
    """Whether a row of the side and one of the other side meet."""
    if row.key != partner.key:
        return False
    return row.time <= partner.time + other.reach and partner.time <= row.time + side.reach


def is_wanted(side, row, other_mark):
    """Whether a row of the other side could still come that meets this side's row."""
    return other_mark <= row.time + side.reach and other_mark <= LAST_TIME


def drop_unwanted(side, other_mark):
    """Lets this side's rows go that aren't wanted any more; the changes that tells."""
    changes = []
    kept = []
    for row in side.kept:
        if is_wanted(side, row, other_mark):
            kept.append(row)
        elif side.tells_at_end and not row.met:
            changes.append(side.alone(1, row))
    side.kept = kept
    return changes


def ask_or_wait(join, row):
    """The changes of a new left row in sort 3."""
    if join.right.mark > row.time:
        return [moment_change(join, row)]
    join.left.kept.append(row)
    return []


def tell_waiting(join):
    """Lets the waiting left rows go that the right mark has passed; the changes that tells."""
    mark = join.right.mark
    due = [row for row in join.left.kept if row.time < mark]
    join.left.kept = [row for row in join.left.kept if row.time >= mark]
    due = sorted(due, key=lambda row: (row.time, row.number))
    return [moment_change(join, row) for row in due]


def moment_change(join, row):
    """The change that tells a left row with the version that holds at its time."""
    version = holding_version(join.right.kept, row.key, row.time)
    if version is None:
        return join.left.alone(1, row)
    return join.left.pair(row, version)


def holding_version(versions, key, time):
    """The key's version that holds at the time, or None; versions stand by number."""
    newest = None
    for version in versions:
        if version.key == key and version.time <= time:
            # A later one in the list has the greater number, so it wins at the same time.
            if newest is None or version.time >= newest.time:
                newest = version
    return newest


def drop_versions(join):
    """Lets the versions go that hold for no left row that waits or could still come.

    One that has gone is never missed: at the times where it held, nothing waits,
    and what could come there comes ahead of the left mark, which never goes back.
    """
    versions = join.right.kept
    needed = {}
    for row in join.left.kept:
        version = holding_version(versions, row.key, row.time)
        if version is not None:
            needed[version.number] = True
    for version in versions:
        # From its own time on it holds until a newer one begins: if it does not hold
        # at the first time that could still come, it does not hold at a later one.
        first = max(version.time, join.left.mark)
        if first <= LAST_TIME:
            newest = holding_version(versions, version.key, first)
            needed[newest.number] = True
    join.right.kept = [version for version in versions if version.number in needed]
