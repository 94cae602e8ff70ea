"""Wishes, and the least sets of changes that make them hold."""

from degreerows.certain import bond
from degreerows.checks import is_integer
from degreerows.errors import InvalidChanges, InvalidWish, InvalidWishes
from degreerows.judging import can_be
from degreerows.kinds import read_kinds
from degreerows.limits import MOST_CHANGES
from degreerows.parting import parted
from degreerows.rows import Row, changed_text, has_places, is_change, need_row
from degreerows.single import has_one_web


def kept(row, wish):
    need_row(row)
    need_wish(wish)
    return holds(row, wish)


def mends(row, wishes, changes):
    need_row(row)
    _need_wishes(wishes)
    _need_changes(row, changes)
    found = []
    for chosen in _sets_of(len(changes)):
        if not any([_is_part(told, chosen) for told in found]):
            if _mend(row, wishes, [changes[index] for index in chosen]):
                found.append(chosen)
    return tuple(found)


def is_wish(value):
    if not isinstance(value, tuple) or len(value) == 0 or not isinstance(value[0], str):
        return False
    word, *numbers = value
    if not all([is_integer(number) for number in numbers]):
        return False
    if word in ("can", "one"):
        return len(numbers) == 0
    if word == "pieces":
        return len(numbers) == 1 and numbers[0] >= 0
    return word in ("tied", "apart") and len(numbers) == 2


def need_wish(value):
    if not is_wish(value):
        raise InvalidWish(value)


def holds(row, wish):
    """Whether the wish, which is one, holds for the row."""
    if not can_be(row):
        return False
    word, *numbers = wish
    if word == "can":
        return True
    if word == "one":
        return has_one_web(row)
    if word == "pieces":
        return len(parted(row.kinds)) <= numbers[0]
    one, mate = numbers
    return has_places(row, one, mate) and bond(row, one, mate) == word


def _need_wishes(value):
    if not isinstance(value, tuple):
        raise InvalidWishes(None)
    for index, wish in enumerate(value):
        if not is_wish(wish):
            raise InvalidWishes(index)


def _need_changes(row, value):
    if not isinstance(value, tuple):
        raise InvalidChanges(None)
    for index, change in enumerate(value):
        if index == MOST_CHANGES or not is_change(row, change):
            raise InvalidChanges(index)


def _sets_of(number):
    """All ascending tuples of indexes below the number, ordered by how many these are, then ascending."""
    sets = [()]
    for index in range(number):
        sets = sets + [(*chosen, index) for chosen in sets]
    sets = sorted(sets)
    return [chosen for many in range(number + 1) for chosen in sets if len(chosen) == many]


def _is_part(told, chosen):
    return all([index in chosen for index in told])


def _mend(row, wishes, changes):
    """Whether these changes, made together, make a row for which all the wishes hold."""
    olds = [old for old, _ in changes]
    if any([olds.count(old) > 1 for old in olds]):
        return False
    kinds = read_kinds(changed_text(row, changes))
    if kinds is None:
        return False
    changed = Row(kinds)
    return all([holds(changed, wish) for wish in wishes])
