"""Certificates: pairs of a claim and what the checker accepts for it."""

from degreerows.certain import bond
from degreerows.judging import barred, barred_kinds
from degreerows.kinds import moved_kinds
from degreerows.parting import pieces
from degreerows.single import has_one_web
from degreerows.webs import two_webs


def certify_can(row):
    k = barred(row)
    if k is None:
        return (("can", row.text), ())
    return (("cannot", row.text), k)


def certify_one(row):
    parts = pieces(row)
    if not has_one_web(row):
        return None
    return (("one", row.text), parts)


def certify_two(row):
    found = two_webs(row)
    if found is None:
        return None
    return (("two", row.text), found)


def certify_bond(row, one, mate):
    word = bond(row, one, mate)
    return ((word, row.text, one, mate), _bond_certificate(row.kinds, word, one, mate))


def _bond_certificate(kinds, word, one, mate):
    if word == "open":
        return ()
    if word == "tied":
        return barred_kinds(moved_kinds(kinds, one, mate, 1))
    return 0 if min(one, mate) == 0 else barred_kinds(moved_kinds(kinds, one, mate, -1))
