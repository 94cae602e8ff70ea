"""Drafts: rows that are led on tie by tie."""

from degreerows.errors import NothingToUndo
from degreerows.judging import need_can_be
from degreerows.links import Link
from degreerows.rows import need_row
from degreerows.single import has_one_web


class Draft:
    """A row that is led on; each link holds a deed and the row that came of it."""

    def __init__(self, row):
        need_row(row)
        need_can_be(row)
        self._first = row
        self._last = Link((None, row), None)

    @property
    def first(self):
        return self._first

    @property
    def row(self):
        return self._last.held[1]

    @property
    def deeds(self):
        told = []
        link = self._last
        while link.before is not None:
            told.append(link.held[0])
            link = link.before
        return tuple(told[::-1])

    def tie(self, one, mate):
        return self._lead("tie", one, mate, 1)

    def cut(self, one, mate):
        return self._lead("cut", one, mate, -1)

    def undo(self):
        if self._last.before is None:
            raise NothingToUndo()
        self._last = self._last.before

    def trial(self):
        return DraftTrial(self)

    def tried(self, action):
        with self.trial() as draft:
            return action(draft)

    def _lead(self, word, one, mate, by):
        row = self.row.raised(one, mate, by)
        need_can_be(row)
        self._last = Link(((word, one, mate), row), self._last)
        return has_one_web(row)

    def __eq__(self, other):
        return isinstance(other, Draft) and self is other

    def __len__(self):
        return len(self.deeds)

    def __bool__(self):
        return True


class DraftTrial:
    """For `with`: one object may be used for several statements, so it keeps where each one that is not over began."""

    def __init__(self, draft):
        self._draft = draft
        self._begun = None

    def __enter__(self):
        self._begun = Link(self._draft._last, self._begun)
        return self._draft

    def __exit__(self, kind, value, trace):
        draft = self._draft
        draft._last = self._begun.held
        self._begun = self._begun.before
