"""What is sure of two places of a row."""

from degreerows.judging import kinds_can_be, need_can_be
from degreerows.kinds import moved_kinds
from degreerows.rows import need_places, need_row


def bond(row, one, mate):
    need_row(row)
    need_places(row, one, mate)
    need_can_be(row)
    return _word(row.kinds, one, mate)


def bonds(row):
    need_row(row)
    need_can_be(row)
    told = []
    for index, (one, many) in enumerate(row.kinds):
        for mate, _ in row.kinds[index:]:
            if mate < one or many > 1:
                told.append((one, mate, _word(row.kinds, one, mate)))
    return tuple(told)


def _word(kinds, one, mate):
    # The moved kinds may be beyond the limits of a row.
    if not kinds_can_be(moved_kinds(kinds, one, mate, 1)):
        return "tied"
    if min(one, mate) == 0 or not kinds_can_be(moved_kinds(kinds, one, mate, -1)):
        return "apart"
    return "open"
