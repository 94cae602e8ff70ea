"""The pieces of a row that can be."""

from degreerows.judging import need_can_be, turns
from degreerows.kinds import ends_of, places_of, shifted_kinds, split_kinds
from degreerows.rows import need_row


def pieces(row):
    need_row(row)
    need_can_be(row)
    return parted(row.kinds)


def is_whole(row):
    parts = pieces(row)
    return len(parts) == 1 and parts[0][0] in ("halves", "rest")


def parted(kinds):
    """The pieces of kinds that can be, which may be more, and greater, than those of a row."""
    parts = []
    left = kinds
    while len(left) > 0:
        piece, left = _outermost(left)
        parts.append(piece)
    return tuple(parts)


def _outermost(kinds):
    """The outermost piece, and the kinds that are left without it."""
    degree, many = kinds[-1]
    if degree == 0:
        return (("alone", many), kinds[:-1])
    degree, many = kinds[0]
    if degree == places_of(kinds) - 1:
        return (("tied", many), shifted_kinds(kinds[1:], -many))
    number = _inner_number(kinds)
    if number is not None:
        return _halves_around(kinds, number)
    number = _last_number(kinds)
    greatest, others = split_kinds(kinds, number)
    if ends_of(greatest) == number * (number - 1) + ends_of(others):
        return (("halves", shifted_kinds(greatest, 1 - number), others), ())
    return (("rest", kinds), ())


def _inner_number(kinds):
    """The least number of inner places of halves with something behind them; None if there is none.

    Then these places have no room. The room is never below 0, because the kinds can be, so between two turns it is 0
    nowhere, or all along; and all along no degree is passed. So the least number is a turn or stands right behind one.
    """
    marks = [0] + turns(kinds)
    for number in sorted({mark + step for mark in marks for step in (0, 1)}):
        if _is_inner_number(kinds, number):
            return number
    return None


def _is_inner_number(kinds, number):
    places = places_of(kinds)
    lower = _kinds_below(kinds, number)
    below = places_of(lower)
    if below == 0 or number + below >= places:
        return False
    greatest, _ = split_kinds(kinds, number)
    return ends_of(greatest) == number * (places - below - 1) + ends_of(lower)


def _kinds_below(kinds, number):
    return tuple([(degree, many) for degree, many in kinds if degree < number])


def _halves_around(kinds, number):
    """Halves with so many inner places, and the kinds that they stand around."""
    lower = _kinds_below(kinds, number)
    greatest, others = split_kinds(kinds, number)
    between, _ = split_kinds(others, places_of(others) - places_of(lower))
    inner = shifted_kinds(greatest, 1 - number - places_of(between))
    return (("halves", inner, lower), shifted_kinds(between, -number))


def _last_number(kinds):
    """The number of the last place whose degree is at least its number less 1."""
    last = 0
    end = 0
    for degree, many in kinds:
        if degree >= end:
            last = min(end + many, degree + 1)
        end += many
    return last
