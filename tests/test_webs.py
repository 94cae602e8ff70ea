import random
import unittest
from itertools import combinations, combinations_with_replacement, permutations

from degreerows.errors import Cannot, InvalidWeb, NotRow, TooMany
from degreerows.judging import can_be
from degreerows.rows import Row
from degreerows.single import has_one_web
from degreerows.webs import are_alike, count_webs, row_of, two_webs, web
from tests.helpers import Errors, nest, strange, strange_tuples
from tests.webs import are_matched, degrees_of, webs_by_degrees

MOST = 10 ** 31
MANY = 10 ** 30


def bits(n, ties):
    """The web as tests/webs.py has it."""
    masks = [0] * n
    for a, b in ties:
        masks[a] |= 1 << b
        masks[b] |= 1 << a
    return tuple(masks)


def all_pairs(n):
    return tuple(combinations(range(n), 2))


def some_ties(chance, n):
    return tuple(tie for tie in all_pairs(n) if chance.random() < 0.5)


def renumbered(ties, mates):
    return tuple(sorted(tuple(sorted((mates[a], mates[b]))) for a, b in ties))


def exchanges_of(n, ties):
    """The ties behind each exchange, by trying all four places in all orders."""
    found = set()
    for a, b, c, d in permutations(range(n), 4):
        if a < b and c < d and {(a, b), (c, d)} <= set(ties):
            news = {tuple(sorted((a, c))), tuple(sorted((b, d)))}
            if not news & set(ties):
                found.add(tuple(sorted(set(ties) - {(a, b), (c, d)} | news)))
    return sorted(found)


class OfRows(unittest.TestCase):
    def check_numbered(self, told, degrees):
        """A small web in which the places have just these degrees, in this order."""
        self.assertIs(type(told), tuple)
        n, ties = told
        self.assertIs(type(n), int)
        self.assertIs(type(ties), tuple)
        self.assertEqual({type(tie) for tie in ties} - {tuple}, set())
        self.assertEqual(sorted(set(ties)), list(ties))
        self.assertTrue(all(0 <= a < b < n for a, b in ties))
        self.assertEqual([sum(place in tie for tie in ties) for place in range(n)], list(degrees))
        self.assertEqual(row_of(*told), Row.listed(tuple(degrees)))

    def check_two(self, told, degrees):
        self.assertIs(type(told), tuple)
        first, second = told
        self.check_numbered(first, degrees)
        self.check_numbered(second, degrees)
        gone, come = set(first[1]) - set(second[1]), set(second[1]) - set(first[1])
        self.assertEqual((len(gone), len(come)), (2, 2))
        self.assertEqual(len({place for tie in gone for place in tie}), 4)
        self.assertEqual({place for tie in gone for place in tie}, {place for tie in come for place in tie})
        self.assertFalse(are_matched(bits(*first), bits(*second)))
        self.assertIs(are_alike(first[0], first[1], second[1]), False)

    def test_rows_of_up_to_six_places_against_all_webs(self):
        seen = {}
        for places in range(1, 7):
            webs = webs_by_degrees(places)
            for degrees in combinations_with_replacement(range(places, -1, -1), places):
                row = Row.listed(degrees)
                many = len(webs.get(degrees, []))
                self.assertEqual(count_webs(row), many, degrees)
                seen[many] = seen.get(many, 0) + 1
                if many == 0:
                    for call in (web, two_webs):
                        with self.assertRaises(Cannot):
                            call(row)
                    continue
                self.check_numbered(web(row), degrees)
                if many == 1:
                    self.assertIsNone(two_webs(row))
                else:
                    self.check_two(two_webs(row), degrees)
        self.assertGreater(seen[1], 100)
        self.assertGreater(max(seen), 3)

    def test_drawn_rows_of_seven_places_against_all_webs(self):
        chance = random.Random(21)
        webs = webs_by_degrees(7)
        self.assertEqual(sum(len(told) for told in webs.values()), 1044)
        for degrees in chance.sample(sorted(webs), 150):
            row = Row.listed(degrees)
            self.assertEqual(count_webs(row), len(webs[degrees]), degrees)
            self.check_numbered(web(row), degrees)
            if len(webs[degrees]) == 1:
                self.assertIsNone(two_webs(row))
            else:
                self.check_two(two_webs(row), degrees)

    def test_drawn_rows_of_eight_to_ten_places(self):
        chance = random.Random(22)
        seen = {True: 0, False: 0}
        while min(seen.values()) < 40:
            places = chance.randint(8, 10)
            own = [chance.randint(0, places - 1) for _ in range(chance.randint(1, 4))]
            degrees = sorted([chance.choice(own) for _ in range(places)], reverse=True)
            row = Row.listed(tuple(degrees))
            if not can_be(row):
                continue
            self.check_numbered(web(row), degrees)
            one = has_one_web(row)
            seen[one] += 1
            if one:
                self.assertIsNone(two_webs(row))
            else:
                self.check_two(two_webs(row), degrees)

    def test_how_many_webs_are_known_to_be(self):
        for degrees, many in (
            ((2,) * 7, 2), ((4,) * 7, 2), ((2, 2, 2, 2, 2, 1, 1), 4), ((1,) * 6, 1), ((3,) * 6, 2), ((0,) * 7, 1),
            ((6,) * 7, 1), ((3,) * 7, 0), ((7,) * 7, 0),
        ):
            self.assertEqual(count_webs(Row.listed(degrees)), many)
            self.assertIs(type(count_webs(Row.listed(degrees))), int)

    def test_no_ties_and_all_ties(self):
        for n in range(1, 11):
            self.assertEqual(web(Row(((0, n),))), (n, ()))
            self.assertEqual(web(Row(((n - 1, n),))), (n, all_pairs(n)))
            self.assertIsNone(two_webs(Row(((0, n),))))
            self.assertIsNone(two_webs(Row(((n - 1, n),))))

    def test_rows_of_ten_places(self):
        for degree in (2, 3, 4, 5, 6, 7):
            self.check_numbered(web(Row(((degree, 10),))), [degree] * 10)
            self.check_two(two_webs(Row(((degree, 10),))), [degree] * 10)
        self.check_numbered(web(Row(((9, 1), (1, 9)))), [9] + [1] * 9)
        stairs = Row(tuple((degree, 2 if degree == 5 else 1) for degree in range(9, 0, -1)))
        self.check_numbered(web(stairs), [9, 8, 7, 6, 5, 5, 4, 3, 2, 1])
        self.assertIsNone(two_webs(stairs))


class OfWebs(unittest.TestCase):
    def test_rows_of_all_webs_of_up_to_five_places(self):
        for n in range(1, 6):
            pairs = all_pairs(n)
            for chosen in range(2 ** len(pairs)):
                ties = tuple(tie for at, tie in enumerate(pairs) if chosen >> at & 1)
                self.assertEqual(row_of(n, ties), Row.listed(degrees_of(bits(n, ties))))

    def test_rows_of_drawn_webs(self):
        chance = random.Random(23)
        for _ in range(300):
            n = chance.randint(1, 10)
            ties = some_ties(chance, n)
            self.assertEqual(row_of(n=n, ties=ties), Row.listed(degrees_of(bits(n, ties))))
            self.assertIs(type(row_of(ties=ties, n=n)), Row)

    def test_all_webs_of_up_to_four_places_against_all_mates(self):
        for n in range(1, 5):
            pairs = all_pairs(n)
            webs = [tuple(tie for at, tie in enumerate(pairs) if chosen >> at & 1) for chosen in range(2 ** len(pairs))]
            for ties in webs:
                mates = {renumbered(ties, order) for order in permutations(range(n))}
                for others in webs:
                    self.assertIs(are_alike(n, ties, others), others in mates)

    def test_drawn_webs_of_up_to_seven_places_against_all_mates(self):
        chance = random.Random(24)
        seen = {True: 0, False: 0}
        for _ in range(60):
            n = chance.randint(5, 7)
            ties = some_ties(chance, n)
            mates = {renumbered(ties, order) for order in permutations(range(n))}
            others = ties
            for _ in range(12):
                others = chance.choice(exchanges_of(n, others) or [others])
                others = renumbered(others, chance.sample(range(n), n))
                told = are_alike(n, ties, others)
                self.assertIs(told, others in mates)
                self.assertIs(are_alike(n=n, ties=others, others=ties), told)
                seen[told] += 1
        self.assertGreater(min(seen.values()), 100)

    def test_webs_of_ten_places(self):
        chance = random.Random(25)
        for _ in range(150):
            n = chance.randint(8, 10)
            ties = some_ties(chance, n)
            mixed = renumbered(ties, chance.sample(range(n), n))
            self.assertIs(are_alike(n, ties, mixed), True)
            other = renumbered(chance.choice(exchanges_of(n, ties) or [ties]), chance.sample(range(n), n))
            self.assertIs(are_alike(n, ties, other), are_matched(bits(n, ties), bits(n, other)))

    def test_webs_with_the_same_degrees_around_each_place(self):
        def rings(*sizes):
            ties, first = [], 0
            for size in sizes:
                ties += [tuple(sorted((first + at, first + (at + 1) % size))) for at in range(size)]
                first += size
            return tuple(sorted(ties))

        sorts = [(10,), (3, 7), (4, 6), (5, 5), (3, 3, 4)]
        chance = random.Random(26)
        for one in sorts:
            for other in sorts:
                mixed = renumbered(rings(*other), chance.sample(range(10), 10))
                self.assertIs(are_alike(10, rings(*one), mixed), one == other)
        spokes = tuple((at, at + 5) for at in range(5))
        star = tuple(sorted(tuple(sorted((5 + at, 5 + (at + 2) % 5))) for at in range(5)))
        prism = tuple(sorted(rings(5, 5) + spokes))
        petersen = tuple(sorted(rings(5) + star + spokes))
        self.assertIs(are_alike(10, prism, petersen), False)
        for ties in (prism, petersen):
            self.assertIs(are_alike(10, ties, renumbered(ties, chance.sample(range(10), 10))), True)

    def test_other_numbers_of_ties(self):
        self.assertIs(are_alike(3, (), ((0, 1),)), False)
        self.assertIs(are_alike(1, (), ()), True)
        self.assertIs(are_alike(10, all_pairs(10), all_pairs(10)), True)
        self.assertIs(are_alike(10, all_pairs(10), all_pairs(10)[1:]), False)
        self.assertIs(are_alike(3, ((0, 1),), ((1, 2),)), True)


class WrongRows(Errors, unittest.TestCase):
    def test_values_that_are_no_rows(self):
        for value in strange() + strange_tuples() + [3, (), nest().text, nest().kinds, (3, ()), (2, ((0, 1),))]:
            if isinstance(value, Row):
                continue
            for call in (web, two_webs, count_webs):
                self.check_error(NotRow, {"given": value}, call, value)
                self.check_error(NotRow, {"given": value}, call, row=value)

    def test_too_many_places(self):
        """Also where the row cannot be."""
        for kinds, places in (
            (((0, 11),), 11), (((10, 11),), 11), (((3, 11),), 11), (((1, 2), (0, 9)), 11), (((1, MANY),), MANY),
            (((MOST, MANY), (0, 3)), MANY + 3), (((20, 1), (1, 99)), 100),
        ):
            for call in (web, two_webs, count_webs):
                self.check_error(TooMany, {"given": places}, call, Row(kinds))
                self.check_error(TooMany, {"given": places}, call, row=Row(kinds))
        for kinds, places in ((((0, 8),), 8), (((7, 8),), 8), (((1, 9),), 9), (((MOST, 10),), 10)):
            self.check_error(TooMany, {"given": places}, count_webs, Row(kinds))
        self.assertEqual(count_webs(Row(((6, 7),))), 1)

    def test_rows_that_cannot_be(self):
        for kinds in (((3, 2), (1, 2)), ((1, 1),), ((MOST, 10),), ((10, 10),), ((MOST, 1), (0, 6))):
            row = Row(kinds)
            for call in (web, two_webs):
                self.check_error(Cannot, {"given": row}, call, row)
                self.check_error(Cannot, {"given": row}, call, row=row)
        for kinds in (((3, 2), (1, 2)), ((1, 1),), ((MOST, 7),), ((7, 7),), ((MOST, 1), (0, 6)), ((3, 7),)):
            self.assertEqual(count_webs(Row(kinds)), 0)
            self.assertEqual(count_webs(row=Row(kinds)), 0)


class WrongWebs(Errors, unittest.TestCase):
    def check_web(self, n, ties):
        self.check_error(InvalidWeb, {"given": (n, ties)}, row_of, n, ties)
        self.check_error(InvalidWeb, {"given": (n, ties)}, row_of, ties=ties, n=n)
        self.check_error(InvalidWeb, {"given": (n, ties)}, are_alike, n, ties, ())
        self.check_error(InvalidWeb, {"given": (n, ties)}, are_alike, others=None, ties=ties, n=n)
        # The ties come first.
        self.check_error(InvalidWeb, {"given": (n, ties)}, are_alike, n, ties, [ties])

    def check_others(self, n, others):
        self.check_error(InvalidWeb, {"given": (n, others)}, are_alike, n, (), others)
        self.check_error(InvalidWeb, {"given": (n, others)}, are_alike, others=others, ties=(), n=n)

    def test_numbers_of_places(self):
        for n in strange() + strange_tuples() + [(), 0, -1, 11, MANY, 10 ** 90, -MANY]:
            self.check_web(n, ())
            self.check_web(n, ((0, 1),))
        self.assertEqual(row_of(1, ()), Row(((0, 1),)))
        self.assertEqual(row_of(10, ()), Row(((0, 10),)))

    def test_ties_that_are_none(self):
        for ties in strange() + strange_tuples() + [
            3, [(0, 1)], ((0, 1), None), ((0, 1), [0, 2]), ([0, 1],), ((0,),), ((0, 1, 2),), (0, 1), ((1, 0),),
            ((0, 0),), ((2, 2),), ((0, 4),), ((4, 5),), ((-1, 0),), ((-1, 3),), ((0, 1), (0, 1)), ((0, 2), (0, 1)),
            ((1, 2), (0, 3)), ((0, True),), ((False, 1),), ((False, True),), (("0", "1"),), ((0, "1"),), ("01",),
            ((0, MANY),), ((0, 1), (0, 2), (0, 2)), ((0, 1), (2, 3), (1, 2)), ((0, (1,)),), ((0, None),),
            ((0, 1), (1, 4)), ((0, 1), (2, 1)),
        ]:
            self.check_web(4, ties)
            self.check_others(4, ties)

    def test_places_within_the_number(self):
        self.assertEqual(row_of(4, ((2, 3),)), Row(((1, 2), (0, 2))))
        self.check_web(3, ((2, 3),))
        self.check_web(1, ((0, 1),))
        self.check_others(2, ((0, 2),))

    def test_the_first_of_both(self):
        self.check_error(InvalidWeb, {"given": (3, 5)}, are_alike, 3, 5, 6)
        self.check_error(InvalidWeb, {"given": (11, ())}, are_alike, 11, (), 6)
        self.check_error(InvalidWeb, {"given": (3, 6)}, are_alike, 3, (), 6)


class Whole(unittest.TestCase):
    def test_nothing_is_changed_and_equal_answers(self):
        row = nest()
        ties = ((0, 1), (1, 2))
        for call in (web, two_webs):
            self.assertEqual(call(row), call(row=nest()))
        self.assertEqual(count_webs(Row(((2, 6),))), count_webs(Row(((2, 6),))))
        are_alike(3, ties, ties)
        self.assertEqual((row, ties), (nest(), ((0, 1), (1, 2))))

    def test_defined_in_the_file(self):
        for call in (web, row_of, are_alike, two_webs, count_webs):
            self.assertEqual(call.__module__, "degreerows.webs")


if __name__ == "__main__":
    unittest.main()
