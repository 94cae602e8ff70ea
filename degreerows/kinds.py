"""Kinds: tuples of pairs (degree, count), and the lines in which they are written."""

from degreerows.checks import is_between, is_filled, is_numeral, is_pair
from degreerows.errors import TooMany
from degreerows.limits import MOST_COUNT, MOST_DEGREE, MOST_KINDS

FIRST_LINE = "row"

# How sides can be read, in the order in which readings are told.
READINGS = ("plain", "exchanged", "opposite", "turned")

# The greatest degree has 32 figures; int() refuses numerals that are far longer.
_MOST_FIGURES = 32


def is_kind(value, most):
    """Whether the value is a pair (degree, count) with a degree up to `most`."""
    return is_pair(value) and is_between(value[0], 0, most) and is_between(value[1], 1, MOST_COUNT)


def wrong_kind(value):
    """The index of the first element that is not valid; None if there is none, or the value is not filled."""
    if not is_filled(value):
        return None
    most = MOST_DEGREE
    for index, kind in enumerate(value):
        if index == MOST_KINDS or not is_kind(kind, most):
            return index
        most = kind[0] - 1
    return None


def are_kinds(value):
    return is_filled(value) and wrong_kind(value) is None


def counted_kinds(counts):
    """The kinds of a dict that tells how many places have each degree."""
    return tuple([(degree, counts[degree]) for degree in sorted(list(counts), reverse=True) if counts[degree] > 0])


def merged_kinds(parts):
    """The kinds of all the places that the parts, kinds each, have together."""
    counts = {}
    for kinds in parts:
        for degree, many in kinds:
            counts[degree] = counts.get(degree, 0) + many
    return counted_kinds(counts)


def places_of(kinds):
    return sum([many for _, many in kinds])


def ends_of(kinds):
    return sum([degree * many for degree, many in kinds])


def shifted_kinds(kinds, by):
    return tuple([(degree + by, many) for degree, many in kinds])


def opposite_kinds(kinds, most):
    """The kinds with the degrees most - d instead of d."""
    return tuple([(most - degree, many) for degree, many in kinds[::-1]])


def are_within(inner, outer):
    """Whether no degree of a side is above the number of places of the other side."""
    return inner[0][0] <= places_of(outer) and outer[0][0] <= places_of(inner)


def read_sides(inner, outer, reading):
    """The inner and the outer kinds of sides in one of the readings."""
    if reading == "plain":
        return (inner, outer)
    if reading == "exchanged":
        return (outer, inner)
    turned_inner = opposite_kinds(inner, places_of(outer))
    turned_outer = opposite_kinds(outer, places_of(inner))
    if reading == "turned":
        return (turned_inner, turned_outer)
    return (turned_outer, turned_inner)


def listed_degrees(kinds):
    """The degrees of all places, the greatest first, where there are few."""
    return [degree for degree, many in kinds for _ in range(many)]


def kinds_of(degrees):
    """The kinds of places that are listed, in any order."""
    return counted_kinds({degree: degrees.count(degree) for degree in degrees})


def kinds_around(inner, outer, kinds):
    """The kinds that come of sides around kinds, () standing for no places; they may be beyond the limits of a row."""
    places = places_of(inner)
    return merged_kinds([shifted_kinds(inner, places - 1 + places_of(kinds)), shifted_kinds(kinds, places), outer])


def split_kinds(kinds, number):
    """The kinds of so many greatest places, and those of the others."""
    greatest = []
    others = []
    left = number
    for degree, many in kinds:
        taken = min(many, left)
        left -= taken
        if taken > 0:
            greatest.append((degree, taken))
        if many > taken:
            others.append((degree, many - taken))
    return (tuple(greatest), tuple(others))


def moved_kinds(kinds, one, mate, by):
    """The kinds if a place of each of the two degrees has `by` ties more."""
    counts = {degree: many for degree, many in kinds}
    for degree in (one, mate):
        counts[degree] -= 1
        counts[degree + by] = counts.get(degree + by, 0) + 1
    return counted_kinds(counts)


def need_few(kinds):
    if len(kinds) > MOST_KINDS:
        raise TooMany(len(kinds))
    for _, many in kinds:
        if many > MOST_COUNT:
            raise TooMany(many)


def kind_lines(kinds):
    return [f"{degree} x {many}" for degree, many in kinds]


def kinds_text(lines):
    return "\n".join([FIRST_LINE] + lines)


def read_kind(line):
    """The pair that the line tells, with whatever numbers; None if it is no such line."""
    words = line.split(" ")
    if len(words) != 3 or words[1] != "x":
        return None
    for word in (words[0], words[2]):
        if len(word) > _MOST_FIGURES or not is_numeral(word):
            return None
    return (int(words[0]), int(words[2]))


def read_kinds(text):
    """The kinds of the row that has this text; None if it is the text of none."""
    if not isinstance(text, str):
        return None
    first, *lines = text.split("\n")
    kinds = tuple([read_kind(line) for line in lines])
    if first != FIRST_LINE or not are_kinds(kinds):
        return None
    return kinds
