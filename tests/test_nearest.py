import random
import unittest
from itertools import combinations_with_replacement, permutations

from degreerows.errors import NotRow, TooMany
from degreerows.nearest import nearest
from degreerows.rows import Row
from degreerows.single import has_one_web
from tests.helpers import Errors, nest, strange, strange_tuples
from tests.webs import webs_by_degrees

MOST = 10 ** 31
MANY = 10 ** 30


def ones_of(places):
    """The degrees, greatest first, of all rows of so many places with one web, by the listing of all webs."""
    return {degrees for degrees, webs in webs_by_degrees(places).items() if len(webs) == 1}


def stepped(degrees):
    """All degrees behind one step."""
    found = set()
    for at, degree in enumerate(degrees):
        for new in (degree - 1, degree + 1):
            if new >= 0:
                found.add(tuple(sorted(degrees[:at] + (new,) + degrees[at + 1:], reverse=True)))
    return found


def nearest_by_steps(degrees, has_one):
    """The number of steps and the rows, going all steps one by one."""
    steps, reached = 0, {degrees}
    seen = set(reached)
    while not any(has_one(told) for told in reached):
        reached = {new for told in reached for new in stepped(told)} - seen
        seen |= reached
        steps += 1
    return (steps, sorted(Row.listed(told).kinds for told in reached if has_one(told)))


class SmallRows(unittest.TestCase):
    def check_nearest(self, degrees, has_one):
        steps, rows = nearest(Row.listed(degrees))
        self.assertEqual((steps, [row.kinds for row in rows]), nearest_by_steps(degrees, has_one), degrees)
        self.assertIs(type(nearest(Row.listed(degrees))), tuple)
        self.assertIs(type(steps), int)
        self.assertIs(type(rows), tuple)
        self.assertEqual({type(row) for row in rows}, {Row})
        return steps

    def test_rows_of_up_to_five_places_step_by_step(self):
        seen = {}
        for places in range(1, 6):
            ones = ones_of(places)
            for degrees in combinations_with_replacement(range(places + 1 if places < 5 else 5, -1, -1), places):
                steps = self.check_nearest(degrees, ones.__contains__)
                seen[steps] = seen.get(steps, 0) + 1
        self.assertGreater(min(seen.get(steps, 0) for steps in range(5)), 20)

    def test_drawn_rows_of_up_to_eight_places_step_by_step(self):
        chance = random.Random(31)
        seen = {}
        for _ in range(120):
            places = chance.randint(6, 8)
            own = [chance.randint(0, places - 1) for _ in range(chance.randint(1, 5))]
            degrees = tuple(sorted([chance.choice(own) for _ in range(places)], reverse=True))
            ones = ones_of(places).__contains__ if places < 8 else lambda told: has_one_web(Row.listed(told))
            steps = self.check_nearest(degrees, ones)
            seen[steps] = seen.get(steps, 0) + 1
        self.assertGreater(min(seen.get(steps, 0) for steps in range(4)), 5)

    def test_rows_with_one_web(self):
        for degrees in sorted(ones_of(6)) + sorted(ones_of(3)):
            self.assertEqual(nearest(Row.listed(degrees)), (0, (Row.listed(degrees),)))
        for kinds in (((0, 8),), ((7, 8),), ((1, 8),), ((0, 1),), ((1, 2),), ((7, 1), (1, 7))):
            self.assertEqual(nearest(row=Row(kinds)), (0, (Row(kinds),)))

    def test_the_sum_is_odd(self):
        self.assertEqual(nearest(Row(((1, 1),))), (1, (Row(((0, 1),)),)))
        self.assertEqual(nearest(Row(((1, 1), (0, 1)))), (1, (Row(((0, 2),)), Row(((1, 2),)))))


class GreatDegrees(unittest.TestCase):
    def test_against_all_mates(self):
        """Each place is led to its mate in each row with one web, the places matched in all ways."""
        for degrees in (
            (MOST,), (MOST, 0), (MOST, MOST), (MOST, MOST, 3), (MOST, 2, 2, 1), (MOST, MOST - 1, 5, 0),
            (MANY, MANY, MANY, MANY), (MOST, MOST, MOST, 2, 2), (1000, 4, 3, 3, 3),
        ):
            steps = {}
            for told in ones_of(len(degrees)):
                least = min(
                    sum(abs(degree - other) for degree, other in zip(degrees, order)) for order in permutations(told)
                )
                steps.setdefault(least, []).append(Row.listed(told).kinds)
            rows = sorted(steps[min(steps)])
            found = nearest(Row.listed(degrees))
            self.assertEqual((found[0], [row.kinds for row in found[1]]), (min(steps), rows))

    def test_eight_places(self):
        self.assertEqual(nearest(Row(((MOST, 8),))), (8 * (MOST - 7), (Row(((7, 8),)),)))
        # Any number of the other places may be tied to the first one.
        stars = [Row.listed((many,) + (1,) * many + (0,) * (7 - many)) for many in range(8)]
        self.assertEqual(nearest(Row(((MOST, 1), (0, 7)))), (MOST, tuple(stars)))


class WrongValues(Errors, unittest.TestCase):
    def test_values_that_are_no_rows(self):
        for value in strange() + strange_tuples() + [3, (), nest().text, nest().kinds]:
            if isinstance(value, Row):
                continue
            self.check_error(NotRow, {"given": value}, nearest, value)
            self.check_error(NotRow, {"given": value}, nearest, row=value)

    def test_too_many_places(self):
        for kinds, places in (
            (((0, 9),), 9), (((1, 10),), 10), (((3, 2), (1, 7)), 9), (((0, 11),), 11), (((1, MANY),), MANY),
            (((MOST, MANY), (0, 3)), MANY + 3), (((7, 2), (4, 5), (1, 2)), 9),
        ):
            self.check_error(TooMany, {"given": places}, nearest, Row(kinds))
            self.check_error(TooMany, {"given": places}, nearest, row=Row(kinds))

    def test_nothing_is_changed_and_equal_answers(self):
        row = Row(((2, 6),))
        told = nearest(row)
        nearest(Row(((3, 5), (1, 2))))
        self.assertEqual(nearest(row), told)
        self.assertEqual(nearest(Row(((2, 6),))), told)
        self.assertEqual(row.kinds, ((2, 6),))
        self.assertEqual(nearest.__module__, "degreerows.nearest")


if __name__ == "__main__":
    unittest.main()
