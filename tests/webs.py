"""All webs of few places, and partings place by place, made without the package."""

from functools import lru_cache
from itertools import combinations_with_replacement, permutations


def neighbours(web, place):
    return [other for other in range(len(web)) if web[place] >> other & 1]


def signs(web):
    """What is told of each place, whatever its number."""
    degrees = [bin(mates).count("1") for mates in web]
    told = []
    for place in range(len(web)):
        mates = neighbours(web, place)
        triangles = sum(bin(web[place] & web[mate]).count("1") for mate in mates)
        told.append((degrees[place], tuple(sorted(degrees[mate] for mate in mates)), triangles))
    return told


def are_matched(web, other):
    """Whether the two webs, tuples of bits, are alike: places are given mates one by one."""
    first, second = signs(web), signs(other)
    if sorted(first) != sorted(second):
        return False
    mates = []

    def go_on():
        place = len(mates)
        if place == len(web):
            return True
        for mate in range(len(web)):
            if mate in mates or first[place] != second[mate]:
                continue
            if all((web[place] >> k & 1) == (other[mate] >> mates[k] & 1) for k in range(place)):
                mates.append(mate)
                if go_on():
                    return True
                mates.pop()
        return False

    return go_on()


@lru_cache(maxsize=None)
def all_webs(places):
    """One web of each sort of alike ones: a place more is tied to some of the others in all ways."""
    if places == 0:
        return ((),)
    found = {}
    for web in all_webs(places - 1):
        for chosen in range(2 ** (places - 1)):
            more = tuple(web[k] | (chosen >> k & 1) << (places - 1) for k in range(places - 1)) + (chosen,)
            sorts = found.setdefault(tuple(sorted(signs(more))), [])
            if not any(are_matched(more, one) for one in sorts):
                sorts.append(more)
    return tuple(web for sorts in found.values() for web in sorts)


def degrees_of(web):
    return tuple(sorted((bin(mates).count("1") for mates in web), reverse=True))


@lru_cache(maxsize=None)
def webs_by_degrees(places):
    """A dict: the unlike webs of the degrees, greatest first."""
    found = {}
    for web in all_webs(places):
        found.setdefault(degrees_of(web), []).append(web)
    return found


def words_of_pairs(webs):
    """A dict of "tied", "apart" or "open" for each pair of degrees that two places have, the greater one first."""
    seen = {}
    for web in webs:
        degrees = [bin(mates).count("1") for mates in web]
        for place in range(len(web)):
            for other in range(place):
                pair = tuple(sorted((degrees[place], degrees[other]), reverse=True))
                seen.setdefault(pair, set()).add(web[place] >> other & 1)
    return {pair: "open" if len(ties) == 2 else ("tied" if 1 in ties else "apart") for pair, ties in seen.items()}


def moved_columns(rows, order):
    return tuple(sorted(sum((row >> old & 1) << new for new, old in enumerate(order)) for row in rows))


@lru_cache(maxsize=None)
def webs_of_sides(inner, outer):
    """A dict: how many unlike webs of sides have the degrees of so many inner and outer places, greatest first."""
    found = {}
    for rows in combinations_with_replacement(range(2 ** outer), inner):
        least = min(moved_columns(rows, order) for order in permutations(range(outer)))
        own = tuple(sorted((bin(row).count("1") for row in rows), reverse=True))
        others = tuple(sorted((sum(row >> k & 1 for row in rows) for k in range(outer)), reverse=True))
        found.setdefault((own, others), set()).add(least)
    return {degrees: len(webs) for degrees, webs in found.items()}


def kinds_of(degrees):
    return tuple((degree, degrees.count(degree)) for degree in sorted(set(degrees), reverse=True))


def parted_by_hand(degrees):
    """The words of point 9, place by place; the degrees are ordered, greatest first."""
    if not degrees:
        return ()
    n = len(degrees)
    if degrees[-1] == 0:
        m = degrees.count(0)
        return (("alone", m),) + parted_by_hand(degrees[:n - m])
    if degrees[0] == n - 1:
        m = degrees.count(n - 1)
        return (("tied", m),) + parted_by_hand([degree - m for degree in degrees[m:]])
    for p in range(1, n):
        q = sum(degree < p for degree in degrees)
        if 0 < q and p + q < n and sum(degrees[:p]) - sum(degrees[n - q:]) == p * (n - q - 1):
            inner = kinds_of([degree - (n - q - 1) for degree in degrees[:p]])
            left = [degree - p for degree in degrees[p:n - q]]
            return (("halves", inner, kinds_of(degrees[n - q:])),) + parted_by_hand(left)
    p = max(number for number in range(1, n + 1) if degrees[number - 1] >= number - 1)
    if sum(degrees[:p]) - sum(degrees[p:]) == p * (p - 1):
        return (("halves", kinds_of([degree - (p - 1) for degree in degrees[:p]]), kinds_of(degrees[p:])),)
    return (("rest", kinds_of(degrees)),)


def put_together(pieces):
    """The kinds of the row of these pieces, each put around all behind it, the last one first."""
    counts = {}
    for word, *parts in reversed(pieces):
        n = sum(counts.values())
        if word == "alone":
            inner, outer = (), ((0, parts[0]),)
        elif word == "tied":
            inner, outer = ((0, parts[0]),), ()
        elif word == "halves":
            inner, outer = parts
        else:
            inner, outer = (), parts[0]
        a = sum(many for _, many in inner)
        now = {degree + a: many for degree, many in counts.items()}
        for degree, many in [(degree + a - 1 + n, many) for degree, many in inner] + list(outer):
            now[degree] = now.get(degree, 0) + many
        counts = now
    return tuple((degree, counts[degree]) for degree in sorted(counts, reverse=True))
