"""Small webs: some web of a row, two unlike ones, and how many there are."""

from degreerows.checks import is_between, is_pair
from degreerows.errors import InvalidWeb, TooMany
from degreerows.judging import can_be, need_can_be
from degreerows.kinds import kinds_of, listed_degrees
from degreerows.limits import MOST_COUNTED, MOST_PLACES
from degreerows.rows import Row, need_row


def web(row):
    _need_few_places(row, MOST_PLACES)
    need_can_be(row)
    return (row.places, _some_ties(row))


def row_of(n, ties):
    _need_web(n, ties)
    return Row(kinds_of([len(mates) for mates in _mates_of(n, ties)]))


def are_alike(n, ties, others):
    _need_web(n, ties)
    _need_web(n, others)
    return _are_alike(_mates_of(n, ties), _mates_of(n, others))


def two_webs(row):
    _need_few_places(row, MOST_PLACES)
    need_can_be(row)
    n = row.places
    ties = _some_ties(row)
    mates = _mates_of(n, ties)
    # A row has more than one web exactly if some exchange of any web of it makes an unlike one.
    for others in _exchanged(ties):
        if not _are_alike(mates, _mates_of(n, others)):
            return ((n, ties), (n, others))
    return None


def count_webs(row):
    _need_few_places(row, MOST_COUNTED)
    if not can_be(row):
        return 0
    return len(_unlike_ties(row.places, _some_ties(row)))


def is_web(n, ties):
    """Whether the pair (n, ties) is a small web."""
    if not is_between(n, 1, MOST_PLACES) or not isinstance(ties, tuple):
        return False
    before = (0, 0)
    for tie in ties:
        if not is_pair(tie) or not is_between(tie[0], 0, n - 1) or not is_between(tie[1], tie[0] + 1, n - 1):
            return False
        if tie <= before:
            return False
        before = tie
    return True


def _need_web(n, ties):
    if not is_web(n, ties):
        raise InvalidWeb((n, ties))


def _need_few_places(row, most):
    need_row(row)
    if row.places > most:
        raise TooMany(row.places)


def _some_ties(row):
    """The ties of some web of the row, which can be, the places numbered from the greatest degree on.

    Whichever place is tied to those that have the most ties left, as many as it needs itself, the others can be tied
    out.
    """
    left = listed_degrees(row.kinds)
    n = row.places
    ties = []
    for place in range(n):
        others = sorted([(-left[other], other) for other in range(place + 1, n)])
        chosen = [other for _, other in others[:left[place]]]
        for other in chosen:
            ties.append((place, other))
            left[other] -= 1
    return tuple(sorted(ties))


def _mates_of(n, ties):
    """For each place the list of those that it is tied to."""
    mates = [[] for _ in range(n)]
    for one, other in ties:
        mates[one].append(other)
        mates[other].append(one)
    return mates


def _signs_of(mates):
    """What is told of each place by the degrees around it, whatever the numbers of the places."""
    signs = [len(own) for own in mates]
    for _ in range(2):
        signs = [(signs[place], tuple(sorted([signs[mate] for mate in own]))) for place, own in enumerate(mates)]
    return signs


def _are_alike(mates, others):
    signs = _signs_of(mates)
    other_signs = _signs_of(others)
    if sorted(signs) != sorted(other_signs):
        return False
    fitting = [[other for other, sign in enumerate(other_signs) if sign == own] for own in signs]
    return _can_be_matched(mates, others, fitting, [])


def _can_be_matched(mates, others, fitting, matched):
    """Whether the places can be matched, so many of the first ones being matched with those told."""
    place = len(matched)
    if place == len(mates):
        return True
    for other in fitting[place]:
        if other not in matched and _fits(mates[place], others[other], matched):
            if _can_be_matched(mates, others, fitting, matched + [other]):
                return True
    return False


def _fits(own, others, matched):
    """Whether a place with its own mates and one with the others are tied to matched places likewise."""
    return all([(place in own) == (other in others) for place, other in enumerate(matched)])


def _exchanged(ties):
    """The ties behind each exchange."""
    found = []
    for index, (a, b) in enumerate(ties):
        for c, d in ties[index + 1:]:
            if a in (c, d) or b in (c, d):
                continue
            for other, another in ((c, d), (d, c)):
                news = [(min(a, other), max(a, other)), (min(b, another), max(b, another))]
                if news[0] not in ties and news[1] not in ties:
                    kept = [tie for tie in ties if tie not in ((a, b), (c, d))]
                    found.append(tuple(sorted(kept + news)))
    return found


def _unlike_ties(n, ties):
    """The ties of one web of each sort of alike ones: exchanges lead from any web of a row to all."""
    found = [ties]
    mates = [_mates_of(n, ties)]
    at = 0
    while at < len(found):
        nexts = _exchanged(found[at])
        for told in nexts:
            own = _mates_of(n, told)
            if not any([_are_alike(own, others) for others in mates]):
                found.append(told)
                mates.append(own)
        at += 1
    return found
