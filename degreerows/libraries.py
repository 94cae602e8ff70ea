"""Libraries: rows under names, and wishes that hold after each change."""

from degreerows.checks import is_between, is_name
from degreerows.errors import Broken, InUse, InvalidIndex, InvalidName, NothingToUndo, UnknownName
from degreerows.links import Link
from degreerows.mends import holds, need_wish
from degreerows.rows import need_row


class Library:
    """Rows and wishes; each link holds a dict of rows and a tuple of pairs (name, wish), as they were behind a change.

    Neither is changed once it is held.
    """

    def __init__(self):
        self._last = Link(({}, ()), None)

    @property
    def names(self):
        return tuple(sorted(list(self._last.held[0])))

    @property
    def wishes(self):
        return self._last.held[1]

    @property
    def changes(self):
        return self._last.number

    def remove(self, name):
        self._need_name(name)
        rows, wishes = self._last.held
        for index, (wished, _) in enumerate(wishes):
            if wished == name:
                raise InUse(index)
        self._hold({other: rows[other] for other in rows if other != name}, wishes)

    def wish(self, name, wish):
        self._need_name(name)
        need_wish(wish)
        rows, wishes = self._last.held
        if not holds(rows[name], wish):
            raise Broken(len(wishes))
        self._hold(rows, (*wishes, (name, wish)))

    def lift(self, index):
        rows, wishes = self._last.held
        if not is_between(index, 0, len(wishes) - 1):
            raise InvalidIndex(index)
        self._hold(rows, wishes[:index] + wishes[index + 1:])

    def undo(self):
        if self._last.before is None:
            raise NothingToUndo()
        self._last = self._last.before

    def trial(self):
        return LibraryTrial(self)

    def tried(self, action):
        with self.trial() as library:
            return action(library)

    def _hold(self, rows, wishes):
        self._last = Link((rows, wishes), self._last)

    def _need_name(self, name):
        if name not in self:
            raise UnknownName(name)

    def __getitem__(self, at):
        if at not in self:
            raise UnknownName(at)
        return self._last.held[0][at]

    def __setitem__(self, at, worth):
        if not is_name(at):
            raise InvalidName(at)
        need_row(worth)
        rows, wishes = self._last.held
        for index, (name, wish) in enumerate(wishes):
            if name == at and not holds(worth, wish):
                raise Broken(index)
        self._hold({**rows, at: worth}, wishes)

    def __contains__(self, x):
        return isinstance(x, str) and x in self._last.held[0]

    def __iter__(self):
        raise TypeError("a library is not iterated over")

    def __eq__(self, other):
        return isinstance(other, Library) and self is other

    def __len__(self):
        return len(self._last.held[0])

    def __bool__(self):
        return True


class LibraryTrial:
    """For `with`: one object may be used for several statements, so it keeps where each one that is not over began."""

    def __init__(self, library):
        self._library = library
        self._begun = None

    def __enter__(self):
        self._begun = Link(self._library._last, self._begun)
        return self._library

    def __exit__(self, kind, value, trace):
        library = self._library
        if kind is not None:
            library._last = self._begun.held
        self._begun = self._begun.before
