import random
import unittest
from itertools import combinations, combinations_with_replacement

from degreerows.errors import InvalidNumber, NotRow
from degreerows.judging import barred, can_be, room
from degreerows.rows import Row
from tests.helpers import Errors, nest, strange, strange_tuples

MOST = 10 ** 31
MANY = 10 ** 30


def degrees_of_webs(places):
    """The degrees, greatest first, of all webs of so many places."""
    pairs = list(combinations(range(places), 2))
    found = set()
    for chosen in range(2 ** len(pairs)):
        degrees = [0] * places
        for index, (a, b) in enumerate(pairs):
            if chosen >> index & 1:
                degrees[a] += 1
                degrees[b] += 1
        found.add(tuple(sorted(degrees, reverse=True)))
    return found


def tied_out(degrees):
    """Whether a web has these degrees, by tying the greatest place to the next ones, again and again."""
    left = sorted(degrees, reverse=True)
    while left:
        first = left.pop(0)
        if first > len(left):
            return False
        left = sorted([degree - 1 for degree in left[:first]] + left[first:], reverse=True)
        if left and left[-1] < 0:
            return False
    return True


def room_by_hand(degrees, k):
    """The words of the document, place by place; the degrees are ordered, greatest first."""
    return k * (k - 1) + sum(min(k, degree) for degree in degrees[k:]) - sum(degrees[:k])


def barred_by_hand(degrees):
    if sum(degrees) % 2 == 1:
        return 0
    for k in range(1, len(degrees) + 1):
        if room_by_hand(degrees, k) < 0:
            return k
    return None


def some_degrees(chance, most_places, most_degree):
    own = [chance.randint(0, most_degree) for _ in range(chance.randint(1, 10))]
    return sorted([chance.choice(own) for _ in range(chance.randint(1, most_places))], reverse=True)


class SmallRows(unittest.TestCase):
    def test_rows_of_up_to_six_places_against_all_webs(self):
        for places in range(1, 7):
            webs = degrees_of_webs(places)
            for degrees in combinations_with_replacement(range(places + 1, -1, -1), places):
                row = Row.listed(degrees)
                self.assertIs(can_be(row), degrees in webs, degrees)
                self.assertEqual(barred(row), barred_by_hand(degrees), degrees)

    def test_rows_of_seven_and_eight_places_by_tying(self):
        for places in (7, 8):
            for degrees in combinations_with_replacement(range(places, -1, -1), places):
                self.assertIs(can_be(Row.listed(degrees)), tied_out(degrees), degrees)

    def test_room_place_by_place(self):
        for places in range(1, 6):
            for degrees in combinations_with_replacement(range(places + 2, -1, -1), places):
                row = Row.listed(degrees)
                rooms = [room(row, k) for k in range(1, places + 1)]
                self.assertEqual(rooms, [room_by_hand(degrees, k) for k in range(1, places + 1)], degrees)


class LongerRows(unittest.TestCase):
    def test_the_least_k_place_by_place(self):
        chance = random.Random(7)
        seen = {0: 0, 1: 0, None: 0, "more": 0}
        for most_places, most_degree, many in ((12, 9, 3000), (40, 30, 4000), (120, 100, 1500), (60, 25, 3000)):
            for _ in range(many):
                degrees = some_degrees(chance, most_places, most_degree)
                told = barred_by_hand(degrees)
                self.assertEqual(barred(Row.listed(tuple(degrees))), told, degrees)
                seen[told if told in (0, 1, None) else "more"] += 1
        self.assertGreater(min(seen.values()), 300)

    def test_a_k_within_a_kind(self):
        """Here the least k stands neither where a kind ends nor at the last k whose degree is at least k."""
        within = 0
        chance = random.Random(8)
        for _ in range(3000):
            degrees = some_degrees(chance, 60, 40)
            row = Row.listed(tuple(degrees))
            k = barred(row)
            if not k:
                continue
            ends = {sum(many for _, many in row.kinds[:index]) for index in range(1, len(row) + 1)}
            last = max(place for place in range(1, row.places + 1) if degrees[place - 1] >= place)
            if k not in ends and k != last:
                within += 1
                self.assertLess(room(row, k), 0)
                self.assertGreaterEqual(min([room(row, less) for less in range(1, k)] + [0]), 0)
        self.assertGreater(within, 100)

    def test_room_place_by_place(self):
        chance = random.Random(9)
        for _ in range(300):
            degrees = some_degrees(chance, 50, 60)
            row = Row.listed(tuple(degrees))
            for k in range(1, len(degrees) + 1):
                self.assertEqual(room(row, k), room_by_hand(degrees, k))


class GreatRows(unittest.TestCase):
    def test_stars(self):
        self.assertIs(can_be(Row(((MANY, 1), (1, MANY)))), True)
        self.assertEqual(barred(Row(((MANY + 2, 1), (1, MANY)))), 1)
        self.assertEqual(barred(Row(((MANY + 1, 1), (1, MANY)))), 0)
        self.assertIs(can_be(Row(((MANY - 2, 1), (1, MANY)))), True)
        star = Row(((MANY, 1), (1, MANY)))
        self.assertEqual([room(star, 1), room(star, MANY + 1)], [0, MANY ** 2 + MANY - 2 * MANY])

    def test_equal_degrees(self):
        self.assertIs(can_be(Row(((MANY - 1, MANY),))), True)
        self.assertEqual(barred(Row(((MANY, MANY),))), 1)
        self.assertEqual(barred(Row(((MANY - 1, MANY - 1),))), 0)
        self.assertEqual(barred(Row(((MOST, MANY),))), 1)
        self.assertEqual(barred(Row(((MOST, 1),))), 1)
        self.assertIs(can_be(Row(((0, MANY),))), True)
        self.assertIs(can_be(Row(((0, 1),))), True)
        self.assertEqual(barred(Row(((1, 1),))), 0)

    def test_two_kinds_with_the_least_k_within_the_first(self):
        """The first k places have k * (k - 1) + 2 * many room for k * degree, as long as k is at least 2."""
        many = 10 ** 20
        degree = 10 ** 25 + 1
        for outer in (2, 4, 6):
            row = Row(((degree, degree + 1 - outer), (outer, many)))
            self.check_least(row)
        row = Row(((10 ** 29, 10 ** 29 - 10 ** 28), (10 ** 3, 10 ** 29), (1, 10 ** 30)))
        self.check_least(row)

    def check_least(self, row):
        """The told k is too great, and the ones near and far below it are not."""
        k = barred(row)
        self.assertGreater(k, 1)
        self.assertLess(room(row, k), 0)
        for less in {1, 2, 3, k // 7, k // 3, k // 2, k - k // 10, k - 1000, k - 2, k - 1}:
            if 0 < less < k:
                self.assertGreaterEqual(room(row, less), 0)

    def test_rows_that_are_many_times_as_great(self):
        """Each place becomes many places of many times the degree."""
        chance = random.Random(10)
        found = 0
        for _ in range(2000):
            degrees = some_degrees(chance, 25, 20)
            kinds = Row.listed(tuple(degrees)).kinds
            row = Row(tuple((degree * 10 ** 28, many * 10 ** 28) for degree, many in kinds))
            k = barred(row)
            if k is None:
                turns = {end for end in range(10 ** 28, row.places + 1, 10 ** 28)}
                self.assertGreaterEqual(min(room(row, turn) for turn in turns), 0)
                continue
            found += k > 1
            self.assertLess(room(row, k), 0)
            for less in (k - 1, k - 2, k // 2, k // 3):
                if less > 0:
                    self.assertGreaterEqual(room(row, less), 0)
        self.assertGreater(found, 100)

    def test_odd_sums_come_ahead(self):
        self.assertEqual(barred(Row(((MOST, 1), (1, 1)))), 0)
        self.assertEqual(barred(Row(((MOST - 1, 1), (2, 1)))), 0)
        self.assertEqual(barred(Row(((MOST, 1), (2, 1)))), 1)

    def test_room_where_kinds_end_and_between(self):
        row = Row(((10 ** 30, 10 ** 10), (10 ** 20, 10 ** 29), (3, 10 ** 30)))
        for k, told in (
            (1, 10 ** 10 - 1 + 10 ** 29 + 10 ** 30 - 10 ** 30),
            (10 ** 10, 10 ** 10 * (10 ** 10 - 1) + 10 ** 39 + 3 * 10 ** 30 - 10 ** 40),
            (
                10 ** 25,
                10 ** 25 * (10 ** 25 - 1) + (10 ** 29 + 10 ** 10 - 10 ** 25) * 10 ** 20 + 3 * 10 ** 30
                - 10 ** 40 - (10 ** 25 - 10 ** 10) * 10 ** 20,
            ),
            (row.places, row.places * (row.places - 1) - row.ends),
            (row.places - 1, (row.places - 1) * (row.places - 2) + 6 - row.ends),
        ):
            self.assertEqual(room(row, k), told)
            self.assertEqual(room(row=row, k=k), told)


class WrongValues(Errors, unittest.TestCase):
    def test_values_that_are_no_rows(self):
        for value in strange() + strange_tuples() + [3, (), nest().text, nest().kinds]:
            if isinstance(value, Row):
                continue
            for call in (can_be, barred):
                self.check_error(NotRow, {"given": value}, call, value)
                self.check_error(NotRow, {"given": value}, call, row=value)
            self.check_error(NotRow, {"given": value}, room, value, 1)
            self.check_error(NotRow, {"given": value}, room, value, None)
            self.check_error(NotRow, {"given": value}, room, k=value, row=value)

    def test_numbers_that_are_none_of_places(self):
        for value in strange() + strange_tuples() + [0, -1, 10, 11, 10 ** 50, "1", (1,)]:
            self.check_error(InvalidNumber, {"given": value}, room, nest(), value)
            self.check_error(InvalidNumber, {"given": value}, room, k=value, row=nest())
        self.assertEqual([room(nest(), 1), room(nest(), 9)], [1, 36])
        one = Row(((0, 1),))
        self.assertEqual(room(one, 1), 0)
        self.check_error(InvalidNumber, {"given": 2}, room, one, 2)

    def test_by_position_and_by_name(self):
        self.assertEqual([can_be(nest()), can_be(row=nest())], [True, True])
        self.assertEqual([barred(Row.listed((3, 3, 1, 1))), barred(row=Row.listed((3, 3, 1, 1)))], [2, 2])
        self.assertEqual([room(nest(), 2), room(k=2, row=nest())], [0, 0])

    def test_kinds_of_answers(self):
        self.assertIs(can_be(nest()), True)
        self.assertIs(can_be(Row(((1, 1),))), False)
        self.assertIs(type(barred(Row(((1, 1),)))), int)
        self.assertIs(type(room(nest(), 1)), int)
        for call in (can_be, barred, room):
            self.assertEqual(call.__module__, "degreerows.judging")


if __name__ == "__main__":
    unittest.main()
