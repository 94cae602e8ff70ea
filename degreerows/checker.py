"""The checker: whether a certificate is one for a claim, whatever both are."""

from degreerows.certain import bond
from degreerows.checks import is_between, is_empty, is_integer, is_pair
from degreerows.judging import can_be, room_of_kinds
from degreerows.kinds import ends_of, kinds_around, moved_kinds, places_of, read_kinds
from degreerows.rows import Row, has_places
from degreerows.single import family, is_piece
from degreerows.webs import are_alike, is_web, row_of


def _tells_can(row, certificate):
    return can_be(row) and is_empty(certificate)


def _tells_cannot(row, certificate):
    if is_integer(certificate) and certificate == 0:
        return ends_of(row.kinds) % 2 == 1
    return _is_barred(row.kinds, certificate)


def _tells_one(row, certificate):
    if not isinstance(certificate, tuple):
        return False
    kinds = ()
    for piece in certificate[::-1]:
        if not is_piece(piece) or family(piece) is None:
            return False
        # Nothing can stand behind a rest.
        if piece[0] == "rest" and len(kinds) > 0:
            return False
        inner, outer = _sides_of(piece)
        kinds = kinds_around(inner, outer, kinds)
    return kinds == row.kinds


def _tells_two(row, certificate):
    if not is_pair(certificate):
        return False
    for told in certificate:
        if not is_pair(told) or not is_web(told[0], told[1]) or row_of(told[0], told[1]) != row:
            return False
    (n, ties), (_, others) = certificate
    return not are_alike(n, ties, others)


def _tells_tied(row, one, mate, certificate):
    return _is_barred(moved_kinds(row.kinds, one, mate, 1), certificate)


def _tells_apart(row, one, mate, certificate):
    if min(one, mate) == 0:
        return is_integer(certificate) and certificate == 0
    return _is_barred(moved_kinds(row.kinds, one, mate, -1), certificate)


def _tells_open(row, one, mate, certificate):
    return is_empty(certificate) and bond(row, one, mate) == "open"


_OF_ROWS = {"can": _tells_can, "cannot": _tells_cannot, "one": _tells_one, "two": _tells_two}
_OF_PLACES = {"tied": _tells_tied, "apart": _tells_apart, "open": _tells_open}


def accepts(claim, certificate):
    if not isinstance(claim, tuple) or len(claim) < 2 or not isinstance(claim[0], str):
        return False
    word, text, *degrees = claim
    kinds = read_kinds(text)
    if kinds is None:
        return False
    row = Row(kinds)
    if word in _OF_ROWS and len(degrees) == 0:
        tells = _OF_ROWS[word]
        return tells(row, certificate)
    if word in _OF_PLACES and len(degrees) == 2:
        one, mate = degrees
        tells = _OF_PLACES[word]
        return has_places(row, one, mate) and can_be(row) and tells(row, one, mate, certificate)
    return False


def _is_barred(kinds, k):
    """Whether the sum of the k greatest degrees is too great."""
    return is_between(k, 1, places_of(kinds)) and room_of_kinds(kinds, k) < 0


def _sides_of(piece):
    """The inner and the outer kinds of a piece; a rest is as if it were outer places by themselves."""
    word, *parts = piece
    if word == "halves":
        return (parts[0], parts[1])
    if word == "rest":
        return ((), parts[0])
    return (((0, parts[0]),), ()) if word == "tied" else ((), ((0, parts[0]),))
