"""Rows: how many places of each degree there are."""

from degreerows.checks import is_between, is_filled, is_integer, is_pair
from degreerows.errors import (
    Cannot, InvalidChanges, InvalidDegree, InvalidDegrees, InvalidKinds, InvalidNumber, InvalidText, NotRow, TooGreat,
)
from degreerows.kinds import (
    are_kinds, counted_kinds, ends_of, kind_lines, kinds_text, moved_kinds, need_few, opposite_kinds, places_of,
    read_kinds, wrong_kind,
)
from degreerows.limits import MOST_DEGREE, MOST_KINDS

_MOST_LISTED = 1000


class Row:
    """A row; it never changes."""

    def __init__(self, kinds):
        if not are_kinds(kinds):
            raise InvalidKinds(wrong_kind(kinds))
        self._kinds = kinds

    @classmethod
    def read(cls, text):
        return cls(need_kinds(text))

    @classmethod
    def listed(cls, degrees):
        wrong = _wrong_degree(degrees)
        if wrong is not None or not is_filled(degrees):
            raise InvalidDegrees(wrong)
        counts = {}
        for index, degree in enumerate(degrees):
            counts[degree] = counts.get(degree, 0) + 1
            if len(counts) > MOST_KINDS:
                raise InvalidDegrees(index)
        return cls(counted_kinds(counts))

    @property
    def kinds(self):
        return self._kinds

    @property
    def places(self):
        return places_of(self._kinds)

    @property
    def ends(self):
        return ends_of(self._kinds)

    @property
    def text(self):
        return kinds_text(kind_lines(self._kinds))

    def count(self, degree):
        # True equals 1, but it is no degree.
        if not is_integer(degree):
            return 0
        for own, many in self._kinds:
            if own == degree:
                return many
        return 0

    def raised(self, one, mate, by):
        need_places(self, one, mate)
        if not is_integer(by) or by not in (1, -1):
            raise InvalidNumber(by)
        for degree in (one + by, mate + by):
            if not is_between(degree, 0, MOST_DEGREE):
                raise TooGreat(degree)
        kinds = moved_kinds(self._kinds, one, mate, by)
        need_few(kinds)
        return Row(kinds)

    def opposite(self):
        most = self.places - 1
        if self._kinds[0][0] > most:
            raise Cannot(self)
        return Row(opposite_kinds(self._kinds, most))

    def changed(self, changes):
        if not isinstance(changes, tuple):
            raise InvalidChanges(None)
        olds = []
        for index, change in enumerate(changes):
            if not is_change(self, change) or change[0] in olds:
                raise InvalidChanges(index)
            olds.append(change[0])
        return Row(need_kinds(changed_text(self, changes)))

    def __eq__(self, other):
        return isinstance(other, Row) and self._kinds == other._kinds

    def __len__(self):
        return len(self._kinds)

    def __str__(self):
        return str(self.text)

    def __repr__(self):
        return f"Row of {len(self._kinds)} kinds"


def _wrong_degree(value):
    """The index of the first element that cannot be listed; None if there is none, or the value is not filled."""
    if not is_filled(value):
        return None
    for index, degree in enumerate(value):
        if index == _MOST_LISTED or not is_between(degree, 0, MOST_DEGREE):
            return index
    return None


def is_change(row, value):
    """Whether the value is a pair (old, new): a line of the row that tells a kind, and one line or nothing."""
    if not is_pair(value) or not isinstance(value[0], str) or not isinstance(value[1], str):
        return False
    return value[0] in kind_lines(row.kinds) and "\n" not in value[1]


def changed_text(row, changes):
    """The text with these changes, no two of them of one line."""
    news = {old: new for old, new in changes}
    lines = [news.get(line, line) for line in kind_lines(row.kinds)]
    return kinds_text([line for line in lines if line != ""])


def need_kinds(text):
    """The kinds of the row that has this text; raises InvalidText if it is the text of none."""
    kinds = read_kinds(text)
    if kinds is None:
        raise InvalidText(text)
    return kinds


def need_row(value):
    if not isinstance(value, Row):
        raise NotRow(value)


def has_places(row, one, mate):
    """Whether the row has two places of these degrees."""
    if row.count(one) == 0 or row.count(mate) == 0:
        return False
    return mate != one or row.count(one) > 1


def need_places(row, one, mate):
    """Raises InvalidDegree unless the row has two places of these degrees."""
    if row.count(one) == 0:
        raise InvalidDegree(one)
    if not has_places(row, one, mate):
        raise InvalidDegree(mate)
