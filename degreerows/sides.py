"""Sides: places of two sides, with ties from one side to the other only."""

from degreerows.errors import Cannot, InvalidInner, InvalidNumber, InvalidOuter, NotSides, TooGreat
from degreerows.judging import need_can_be
from degreerows.kinds import (
    READINGS, are_kinds, are_within, ends_of, kinds_around, need_few, read_sides, wrong_kind,
)
from degreerows.limits import MOST_DEGREE
from degreerows.rows import Row, need_row
from degreerows.single import leaves_no_choice


class Sides:
    """Sides; they never change."""

    def __init__(self, inner, outer):
        if not are_kinds(inner):
            raise InvalidInner(wrong_kind(inner))
        if not are_kinds(outer):
            raise InvalidOuter(wrong_kind(outer))
        self._inner = inner
        self._outer = outer

    @property
    def inner(self):
        return self._inner

    @property
    def outer(self):
        return self._outer

    def turned(self, reading):
        if not isinstance(reading, str) or reading not in READINGS:
            raise InvalidNumber(reading)
        if not are_within(self._inner, self._outer):
            raise Cannot(self)
        inner, outer = read_sides(self._inner, self._outer, reading)
        return Sides(inner, outer)

    def __eq__(self, other):
        return isinstance(other, Sides) and self._inner == other._inner and self._outer == other._outer

    def __repr__(self):
        return f"Sides of {len(self._inner)} and {len(self._outer)} kinds"


def sides_can_be(sides):
    need_sides(sides)
    return _can_be(sides.inner, sides.outer)


def sides_one(sides):
    need_sides(sides)
    # Webs of sides are alike exactly if, with all inner places tied, they are alike as webs of that row.
    return _can_be(sides.inner, sides.outer) and leaves_no_choice(kinds_around(sides.inner, sides.outer, ()))


def around(sides, row):
    need_sides(sides)
    need_row(row)
    _need_can_be(sides)
    need_can_be(row)
    return _limited_row(kinds_around(sides.inner, sides.outer, row.kinds))


def alone_row(sides):
    need_sides(sides)
    _need_can_be(sides)
    return _limited_row(kinds_around(sides.inner, sides.outer, ()))


def need_sides(value):
    if not isinstance(value, Sides):
        raise NotSides(value)


def _need_can_be(sides):
    if not _can_be(sides.inner, sides.outer):
        raise Cannot(sides)


def _can_be(inner, outer):
    """Whether the sums are equal and no number of greatest inner places has more ties than there is room for.

    This is asked where an inner kind ends: within a kind each place more has the same degree, and gets less room.
    """
    if ends_of(inner) != ends_of(outer):
        return False
    number = 0
    taken = 0
    for degree, many in inner:
        number += many
        taken += degree * many
        if taken > sum([others * min(other, number) for other, others in outer]):
            return False
    return True


def _limited_row(kinds):
    if kinds[0][0] > MOST_DEGREE:
        raise TooGreat(kinds[0][0])
    need_few(kinds)
    return Row(kinds)
