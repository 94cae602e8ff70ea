"""The nearest rows with one web."""

from degreerows.errors import TooMany
from degreerows.kinds import kinds_of, listed_degrees
from degreerows.limits import MOST_NEAR
from degreerows.rows import Row, need_row
from degreerows.single import has_one_web


def nearest(row):
    need_row(row)
    if row.places > MOST_NEAR:
        raise TooMany(row.places)
    by_steps = _lists_by_steps(listed_degrees(row.kinds))
    order = sorted(list(by_steps))
    at = 0
    found = _with_one_web(by_steps[order[0]])
    # This ends: the row without ties has one web.
    while len(found) == 0:
        at += 1
        found = _with_one_web(by_steps[order[at]])
    return (order[at], found)


def _with_one_web(lists):
    """The rows of these lists of degrees that have one web, ascending by their kinds."""
    rows = [Row(kinds) for kinds in sorted([kinds_of(degrees) for degrees in lists])]
    return tuple([row for row in rows if has_one_web(row)])


def _lists_by_steps(degrees):
    """A dict: the lists of degrees that the webs of so many places may have, by the steps that lead to them.

    Both are ordered, the greatest first: then the steps are the fewest if each place is led to the one beside it.
    """
    by_steps = {}
    for others in _lists_of(len(degrees)):
        steps = sum([abs(degree - other) for degree, other in zip(degrees, others)])
        by_steps.setdefault(steps, []).append(others)
    return by_steps


def _lists_of(places):
    """All lists of so many degrees below that number, the greatest first."""
    lists = [(degree,) for degree in range(places)]
    for _ in range(places - 1):
        lists = [(*degrees, degree) for degrees in lists for degree in range(degrees[-1] + 1)]
    return lists
