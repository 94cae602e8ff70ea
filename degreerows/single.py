"""The families of pieces, and whether a row has one web."""

from degreerows.checks import is_integer
from degreerows.errors import InvalidPiece
from degreerows.judging import can_be, need_can_be
from degreerows.kinds import READINGS, are_kinds, are_within, ends_of, opposite_kinds, places_of, read_sides
from degreerows.parting import parted
from degreerows.rows import need_row


def _is_ring(kinds):
    return kinds == ((2, 5),)


def _are_pairs(kinds):
    degree, many = kinds[0]
    return len(kinds) == 1 and degree == 1 and many >= 4 and many % 2 == 0


def _is_star(kinds):
    if len(kinds) != 2:
        return False
    (one, ones), (other, others) = kinds
    return ones == 1 and one >= 2 and other == 1 and others > one and (others - one) % 2 == 0


def _is_hub(kinds):
    if len(kinds) != 2:
        return False
    (one, ones), (other, others) = kinds
    return ones == 1 and one >= 4 and one % 2 == 0 and other == 2 and others == one + 1


def _are_stars(inner, outer):
    return len(outer) == 1 and outer[0][0] == 1 and inner[-1][0] >= 1 and places_of(inner) >= 2


def _is_bridge(inner, outer):
    # As the sums are equal, the one outer place is not alone: the inner places have more ties than it can have.
    if len(inner) != 1 or len(outer) != 2:
        return False
    (one, ones), (other, _) = outer
    return inner[0][0] >= 2 and ones == 1 and 2 <= one < places_of(inner) and other == 1


def _is_crown(inner, outer):
    # As the sums are equal, b - 1 is (a - 1) * r - 2, which is above r: the one inner place comes first.
    if len(inner) != 2 or len(outer) != 1:
        return False
    (one, ones), (other, _) = inner
    degree, many = outer[0]
    return degree == 2 and ones == 1 and one == many - 1 and other >= 2 and places_of(inner) >= 4


# In the order in which families are told.
_RESTS = {"ring": _is_ring, "pairs": _are_pairs, "star": _is_star, "hub": _is_hub}
_HALVES = {"stars": _are_stars, "bridge": _is_bridge, "crown": _is_crown}


def family(piece):
    if not is_piece(piece):
        raise InvalidPiece(piece)
    return _family(piece)


def has_one_web(row):
    return can_be(row) and leaves_no_choice(row.kinds)


def faults(row):
    need_row(row)
    need_can_be(row)
    return _faults(row.kinds)


def is_piece(value):
    """Whether the value is one of the four tuples that are pieces of rows."""
    if not isinstance(value, tuple) or len(value) < 2 or not isinstance(value[0], str):
        return False
    word, *parts = value
    if word == "halves":
        return len(parts) == 2 and are_kinds(parts[0]) and are_kinds(parts[1])
    if len(parts) != 1:
        return False
    if word == "rest":
        return are_kinds(parts[0])
    return word in ("alone", "tied") and is_integer(parts[0]) and parts[0] >= 1


def leaves_no_choice(kinds):
    """Whether kinds that can be have one web; they may be more, and greater, than those of a row."""
    return len(_faults(kinds)) == 0


def _faults(kinds):
    return tuple([index for index, piece in enumerate(parted(kinds)) if _family(piece) is None])


def _family(piece):
    if piece[0] == "rest":
        return _family_of_rest(piece[1])
    if piece[0] == "halves":
        return _family_of_halves(piece[1], piece[2])
    return (piece[0], "plain")


def _family_of_rest(kinds):
    most = places_of(kinds) - 1
    readings = [("plain", kinds)]
    if kinds[0][0] <= most:
        readings.append(("opposite", opposite_kinds(kinds, most)))
    for word in _RESTS:
        fits = _RESTS[word]
        for reading, read in readings:
            if fits(read):
                return (word, reading)
    return None


def _family_of_halves(inner, outer):
    # Sums that are equal in one reading are so in each.
    if ends_of(inner) != ends_of(outer):
        return None
    readings = READINGS if are_within(inner, outer) else READINGS[:2]
    for word in _HALVES:
        fits = _HALVES[word]
        for reading in readings:
            read_inner, read_outer = read_sides(inner, outer, reading)
            if fits(read_inner, read_outer):
                return (word, reading)
    return None
