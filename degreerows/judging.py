"""Whether a row can be, and what bars it."""

from degreerows.checks import is_between
from degreerows.errors import Cannot, InvalidNumber
from degreerows.kinds import ends_of
from degreerows.rows import need_row


def can_be(row):
    return barred(row) is None


def barred(row):
    need_row(row)
    return barred_kinds(row.kinds)


def room(row, k):
    need_row(row)
    if not is_between(k, 1, row.places):
        raise InvalidNumber(k)
    return room_of_kinds(row.kinds, k)


def need_can_be(row):
    """Raises Cannot unless the row can be."""
    if not kinds_can_be(row.kinds):
        raise Cannot(row)


def kinds_can_be(kinds):
    """Whether kinds can be, which may be more, and greater, than those of a row."""
    return barred_kinds(kinds) is None


def turns(kinds):
    """The ascending k between which the room rises or falls evenly, till it falls no more.

    Up to the last k whose degree is at least k, the room rises from k - 1 to k by how many degrees are at least k,
    less 1, less the k-th degree: by another number only where a kind ends, and where k goes beyond a degree. That
    last k is a turn itself, and the room never falls behind it.
    """
    marks = []
    end = 0
    for degree, many in kinds:
        end += many
        marks.append(degree)
        marks.append(end)
    return sorted({k for k in marks if 0 < k <= end})


def barred_kinds(kinds):
    """As `barred`, for kinds that may be more, and greater, than those of a row."""
    if ends_of(kinds) % 2 == 1:
        return 0
    before = 0
    spare = 0
    for k in turns(kinds):
        now = room_of_kinds(kinds, k)
        if now < 0:
            # Between two turns the room falls by the same number with each k.
            fall = (spare - now) // (k - before)
            return before + spare // fall + 1
        before = k
        spare = now
    return None


def room_of_kinds(kinds, k):
    """As `room`, for kinds that may be more, and greater, than those of a row."""
    spare = k * (k - 1)
    left = k
    for degree, many in kinds:
        taken = min(many, left)
        left -= taken
        spare += (many - taken) * min(k, degree) - taken * degree
    return spare
