"""Consoles: answers to lines about rows under names."""

from degreerows.certain import bond
from degreerows.checks import is_name, is_numeral
from degreerows.judging import can_be
from degreerows.kinds import are_kinds, read_kind
from degreerows.links import Link
from degreerows.parting import parted
from degreerows.rows import Row, has_places
from degreerows.single import has_one_web

_NO_LINE = "no such line"
_NO_ROW = "no such row"
_NO_WEB = "no web"


def _can(row):
    return "yes" if can_be(row) else "no"


def _one(row):
    if not can_be(row):
        return _NO_WEB
    return "one web" if has_one_web(row) else "several webs"


def _pieces(row):
    if not can_be(row):
        return _NO_WEB
    return " ".join([piece[0] for piece in parted(row.kinds)])


_QUESTIONS = {"can": _can, "one": _one, "pieces": _pieces}


class Console:
    """Answers lines; each link holds the rows under their names, as they were behind a putting or dropping."""

    def __init__(self):
        self._last = Link({}, None)

    @property
    def names(self):
        return tuple(sorted(list(self._last.held)))

    def do(self, line):
        word, *parts = line.split(" ")
        if word == "row" and len(parts) > 0:
            return self._put(parts[0], " ".join(parts[1:]))
        if "" in parts:
            return _NO_LINE
        if word == "undo" and len(parts) == 0:
            return self._undo()
        if word == "drop" and len(parts) == 1:
            return self._drop(parts[0])
        if word == "bond" and len(parts) == 3:
            return self._bond(parts[0], parts[1], parts[2])
        if word in _QUESTIONS and len(parts) == 1:
            return self._ask(word, parts[0])
        return _NO_LINE

    def _put(self, name, told):
        if name == "" or told == "":
            return _NO_LINE
        if not is_name(name):
            return "no name"
        kinds = tuple([read_kind(line) for line in told.split(", ")])
        if not are_kinds(kinds):
            return "no row"
        self._last = Link({**self._last.held, name: Row(kinds)}, self._last)
        return "put"

    def _drop(self, name):
        rows = self._last.held
        if name not in rows:
            return _NO_ROW
        self._last = Link({other: rows[other] for other in rows if other != name}, self._last)
        return "dropped"

    def _undo(self):
        if self._last.before is None:
            return "nothing"
        self._last = self._last.before
        return "undone"

    def _ask(self, word, name):
        rows = self._last.held
        if name not in rows:
            return _NO_ROW
        answer = _QUESTIONS[word]
        return answer(rows[name])

    def _bond(self, name, one, mate):
        if not is_numeral(one) or not is_numeral(mate):
            return _NO_LINE
        rows = self._last.held
        if name not in rows:
            return _NO_ROW
        return _bond_of(rows[name], one, mate)

    def __eq__(self, other):
        return isinstance(other, Console) and self is other


def _bond_of(row, one, mate):
    """The answer for two places, their degrees in digits, which are not turned into integers: they may be too long."""
    if not can_be(row):
        return _NO_WEB
    degrees = {str(degree): degree for degree, _ in row.kinds}
    if one not in degrees or mate not in degrees or not has_places(row, degrees[one], degrees[mate]):
        return "no such places"
    return bond(row, degrees[one], degrees[mate])
