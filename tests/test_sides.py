import random
import unittest
from itertools import combinations_with_replacement

from degreerows.errors import (
    Cannot, InvalidInner, InvalidNumber, InvalidOuter, NotRow, NotSides, TooGreat, TooMany,
)
from degreerows.judging import can_be
from degreerows.parting import pieces
from degreerows.rows import Row
from degreerows.sides import Sides, alone_row, around, sides_can_be, sides_one
from degreerows.single import has_one_web
from tests.helpers import Errors, nest, path, strange, strange_tuples
from tests.webs import kinds_of, put_together, webs_of_sides

MOST = 10 ** 31
MANY = 10 ** 30
READINGS = ("plain", "exchanged", "opposite", "turned")


def stairs(many):
    return tuple((degree, 1) for degree in range(many - 1, -1, -1))


def steps(many):
    """Kinds with the degrees from `many` down to 1."""
    return tuple((degree, 1) for degree in range(many, 0, -1))


def lists_of_degrees(places, most):
    return list(combinations_with_replacement(range(most, -1, -1), places))


def tied_out(inner, outer):
    """Whether sides have these degrees, by tying each inner place to the greatest outer ones."""
    left = sorted(outer, reverse=True)
    for degree in inner:
        if degree > len(left):
            return False
        left = sorted([other - 1 for other in left[:degree]] + left[degree:], reverse=True)
        if left[-1] < 0:
            return False
    return left == [0] * len(left)


class TheClass(Errors, unittest.TestCase):
    def check_sides(self, error, index, inner, outer):
        self.check_error(error, {"index": index}, Sides, inner, outer)
        self.check_error(error, {"index": index}, Sides, outer=outer, inner=inner)

    def test_as_they_were_passed(self):
        for inner, outer in ((((1, 2),), ((1, 2),)), (((0, 1),), stairs(10)), (((MOST, MANY),), ((3, 1), (0, MANY)))):
            for sides in (Sides(inner, outer), Sides(outer=outer, inner=inner)):
                self.assertIs(sides.inner, inner)
                self.assertIs(sides.outer, outer)

    def test_kinds_that_are_none(self):
        right = ((1, 2),)
        for value in strange() + strange_tuples() + [3, (), [(1, 2)], "12"]:
            index = 0 if isinstance(value, tuple) and value else None
            self.check_sides(InvalidInner, index, value, right)
            self.check_sides(InvalidOuter, index, right, value)
            self.check_sides(InvalidInner, index, value, value)
            self.check_sides(InvalidInner, index, value, None)

    def test_indexes(self):
        right = ((1, 2),)
        for kinds, index in (
            (stairs(11), 10), (stairs(10) + (None,), 10), (((2, 1), (2, 1)), 1), (((2, 1), (1, 0)), 1),
            (((2, 1), (1, 1), (0, True)), 2), (((MOST + 1, 1),), 0), (((1, MANY + 1),), 0), (((-1, 1),), 0),
            (((3, 1), (4, 1), None), 1), (((True, 1),), 0),
        ):
            self.check_sides(InvalidInner, index, kinds, right)
            self.check_sides(InvalidOuter, index, right, kinds)
            self.check_sides(InvalidInner, index, kinds, kinds)

    def test_equality(self):
        sides = Sides(((2, 1), (1, 2)), ((1, 4),))
        self.assertTrue(sides == Sides(((2, 1), (1, 2)), ((1, 4),)))
        self.assertFalse(sides != Sides(((2, 1), (1, 2)), ((1, 4),)))
        for other in (
            Sides(((1, 4),), ((2, 1), (1, 2))), Sides(((2, 1), (1, 2)), ((1, 3),)), Sides(((2, 1),), ((1, 4),)), path(),
        ):
            self.assertIs(sides == other, False)
            self.assertIs(sides != other, True)
        for value in strange() + strange_tuples() + [3, (sides.inner, sides.outer), repr(sides)]:
            self.assertIs(sides == value, False)
            self.assertIs(sides != value, True)

    def test_representation_and_truth(self):
        self.assertEqual(repr(Sides(((2, 1),), ((1, 1), (0, 2)))), "Sides of 1 and 2 kinds")
        self.assertEqual(repr(Sides(stairs(10), ((1, 1),))), "Sides of 10 and 1 kinds")
        self.assertIs(bool(Sides(((0, 1),), ((0, 1),))), True)

    def test_properties_cannot_be_set(self):
        sides = path()
        for name in ("inner", "outer"):
            with self.assertRaises(AttributeError):
                setattr(sides, name, 3)
        self.assertEqual(sides, path())

    def test_defined_in_the_class(self):
        for name in ("inner", "outer", "turned", "__init__", "__eq__", "__repr__"):
            self.assertIn(name, vars(Sides))
        for call in (Sides, sides_can_be, sides_one, around, alone_row):
            self.assertEqual(call.__module__, "degreerows.sides")


class Turned(Errors, unittest.TestCase):
    def check_turned(self, sides, reading, inner, outer):
        for read in (sides.turned(reading), sides.turned(reading=reading)):
            self.assertIs(type(read), Sides)
            self.assertEqual([read.inner, read.outer], [inner, outer])

    def test_four_readings(self):
        sides = Sides(((2, 3),), ((2, 1), (1, 4)))
        self.check_turned(sides, "plain", ((2, 3),), ((2, 1), (1, 4)))
        self.check_turned(sides, "exchanged", ((2, 1), (1, 4)), ((2, 3),))
        self.check_turned(sides, "opposite", ((2, 4), (1, 1)), ((3, 3),))
        self.check_turned(sides, "turned", ((3, 3),), ((2, 4), (1, 1)))
        self.assertEqual(sides, Sides(((2, 3),), ((2, 1), (1, 4))))

    def test_great_degrees_and_degrees_at_the_edge(self):
        sides = Sides(((MANY, 3), (0, MANY)), ((MANY + 3, 2), (7, MANY - 2)))
        self.check_turned(sides, "turned", ((MANY, MANY), (0, 3)), ((MANY - 4, MANY - 2), (0, 2)))
        self.check_turned(sides, "opposite", ((MANY - 4, MANY - 2), (0, 2)), ((MANY, MANY), (0, 3)))
        self.check_turned(Sides(((0, 1),), ((0, MANY),)), "turned", ((MANY, 1),), ((1, MANY),))
        ten = tuple((degree, MANY) for degree in range(10, 0, -1))
        less = tuple((degree, MANY) for degree in range(9, -1, -1))
        self.check_turned(Sides(((0, 10),), ten), "turned", ((MOST, 10),), less)

    def test_each_reading_twice_and_one_behind_another(self):
        """The sums may be unlike: sides that cannot be are read likewise."""
        chance = random.Random(5)
        for _ in range(200):
            a, b = chance.randint(1, 9), chance.randint(1, 9)
            inner = kinds_of([chance.randint(0, b) for _ in range(a)])
            outer = kinds_of([chance.randint(0, a) for _ in range(b)])
            sides = Sides(inner, outer)
            for reading in READINGS:
                self.assertEqual(sides.turned(reading).turned(reading), sides)
            self.assertEqual(sides.turned("turned").turned("exchanged"), sides.turned("opposite"))
            self.assertEqual(sides.turned("exchanged").turned("turned"), sides.turned("opposite"))
            self.assertEqual(sides.turned("opposite").turned("exchanged"), sides.turned("turned"))

    def test_readings_keep_what_can_be(self):
        for a, b in ((2, 3), (3, 3)):
            for inner in lists_of_degrees(a, b):
                for outer in lists_of_degrees(b, a):
                    sides = Sides(kinds_of(inner), kinds_of(outer))
                    for reading in READINGS[1:]:
                        read = sides.turned(reading)
                        self.assertIs(sides_can_be(read), sides_can_be(sides))
                        self.assertIs(sides_one(read), sides_one(sides))

    def test_other_values_are_no_readings(self):
        for sides in (path(), Sides(((3, 1),), ((1, 2),))):
            others = [3, 0, 1, (), "Plain", "opposite ", "turn", ("plain",), ["plain"]]
            for value in strange() + strange_tuples() + others:
                self.check_error(InvalidNumber, {"given": value}, sides.turned, value)
                self.check_error(InvalidNumber, {"given": value}, sides.turned, reading=value)

    def test_degrees_above_the_other_side(self):
        for sides in (
            Sides(((3, 1),), ((1, 2),)), Sides(((1, 2),), ((3, 1),)), Sides(((3, 1), (1, 2)), ((4, 1), (0, 1))),
            Sides(((MOST, 1),), ((1, MANY),)), Sides(((1, 2),), ((3, 1), (0, 5))), Sides(((3, 1), (0, 2)), ((1, 2),)),
        ):
            for reading in READINGS:
                self.check_error(Cannot, {"given": sides}, sides.turned, reading)
                self.check_error(Cannot, {"given": sides}, sides.turned, reading=reading)


class SmallSides(unittest.TestCase):
    def test_sides_of_up_to_seven_places_against_all_webs(self):
        for a, b in [(a, b) for a in range(1, 7) for b in range(1, 7) if a + b <= 7]:
            webs = webs_of_sides(a, b)
            for inner in lists_of_degrees(a, b + 1):
                for outer in lists_of_degrees(b, a + 1):
                    sides = Sides(kinds_of(inner), kinds_of(outer))
                    many = webs.get((inner, outer), 0)
                    self.assertIs(sides_can_be(sides), many > 0, (inner, outer))
                    self.assertIs(sides_one(sides), many == 1, (inner, outer))

    def test_longer_sides_by_tying(self):
        chance = random.Random(6)
        seen = {True: 0, False: 0}
        for _ in range(4000):
            a, b = chance.randint(1, 14), chance.randint(1, 14)
            own = [chance.randint(0, b) for _ in range(10)]
            inner = [chance.choice(own) for _ in range(a)]
            outer = [0] * b
            for _ in range(sum(inner)):
                outer[min(chance.randrange(b), chance.randrange(b))] += 1
            if len(set(outer)) > 10:
                continue
            told = sides_can_be(Sides(kinds_of(inner), kinds_of(outer)))
            self.assertIs(told, tied_out(inner, outer), (inner, outer))
            seen[told] += 1
        self.assertGreater(min(seen.values()), 500)

    def test_sides_one_as_the_row_by_themselves(self):
        for a, b in ((3, 5), (4, 4), (5, 3)):
            for inner in lists_of_degrees(a, b):
                for outer in lists_of_degrees(b, a):
                    sides = Sides(kinds_of(inner), kinds_of(outer))
                    if sides_can_be(sides):
                        self.assertIs(sides_one(sides), has_one_web(alone_row(sides)), (inner, outer))


class GreatSides(unittest.TestCase):
    def test_what_can_be(self):
        d = 10 ** 29
        for inner, outer, told in (
            (((1, MANY),), ((1, MANY),), True), (((2, MANY),), ((1, MANY),), False), (((MANY, 1),), ((1, MANY),), True),
            (((MANY + 1, 1),), ((1, MANY),), False), (((MANY, MANY),), ((MANY, MANY),), True),
            (((MANY, d),), ((d, MANY),), True), (((MANY + 1, d),), ((d + 1, MANY),), False),
            (((3 * d, d), (0, d)), ((d, 3 * d),), True), (((3 * d, d), (0, d)), ((2 * d, d), (d, d)), False),
            (((3 * d, d), (1, d)), ((d + 1, d), (d, 2 * d)), True), (((MOST, 1),), ((1, MANY),), False),
        ):
            self.assertIs(sides_can_be(Sides(inner, outer)), told, (inner, outer))

    def test_what_has_one_web(self):
        d = 10 ** 29
        for inner, outer, told in (
            (((1, MANY),), ((1, MANY),), True), (((MANY, 1),), ((1, MANY),), True), (((MANY, d),), ((d, MANY),), True),
            (((2, d),), ((2, d),), False), (((MANY - 1, MANY),), ((MANY - 1, MANY),), True),
            (((5, d),), ((d - 1, 1), (1, 4 * d + 1)), True), (((5, d),), ((d - 2, 1), (3, 1), (1, 4 * d - 1)), False),
            (((3 * d - 2, 1), (d, 3)), ((2, 3 * d - 1),), True), (((0, MANY),), ((0, MANY),), True),
            (((2, MANY),), ((1, MANY),), False),
        ):
            self.assertIs(sides_one(Sides(inner, outer)), told, (inner, outer))

    def test_sides_whose_rows_are_beyond_the_limits(self):
        """They have no row, but it can be told whether they have one web."""
        inner = tuple((10 * k, MANY // 10) for k in range(10, 0, -1))
        outer = tuple((MANY // 10 * k, 10) for k in range(10, 0, -1))
        self.assertIs(sides_one(Sides(inner, outer)), True)
        with self.assertRaises(TooMany) as seen:
            alone_row(Sides(inner, outer))
        self.assertEqual(seen.exception.given, 20)
        inner = tuple((k, MANY) for k in range(10, 0, -1))
        outer = tuple((k * MANY, 1) for k in range(10, 0, -1))
        for sides, told in ((Sides(inner, outer), True), (Sides(inner, ((55 * 10 ** 11, 10 ** 19),)), False)):
            self.assertIs(sides_can_be(sides), True)
            self.assertIs(sides_one(sides), told)
            with self.assertRaises(TooGreat) as seen:
                alone_row(sides)
            self.assertEqual(seen.exception.given, MOST + 9)


class Rows(Errors, unittest.TestCase):
    def test_around_as_put_together(self):
        rows = [Row(((2, 5),)), Row(((0, 1),)), Row(((1, 2), (0, 1))), Row(((3, 4),)), Row(((2, 1), (1, 2))), nest()]
        for a, b in ((1, 1), (2, 2), (2, 3), (3, 2), (1, 4)):
            for inner, outer in webs_of_sides(a, b):
                sides = Sides(kinds_of(inner), kinds_of(outer))
                piece = ("halves", sides.inner, sides.outer)
                self.assertEqual(alone_row(sides).kinds, put_together((piece,)))
                self.assertEqual(alone_row(sides=sides).kinds, put_together((piece,)))
                for row in rows:
                    told = around(sides, row)
                    self.assertIs(type(told), Row)
                    self.assertEqual(told.kinds, put_together((piece, ("rest", row.kinds))))
                    self.assertEqual(told, around(row=row, sides=sides))
                    self.assertIs(can_be(told), True)

    def test_pieces_put_around_one_another_give_the_row(self):
        told = (("halves", ((2, 3),), ((2, 1), (1, 4))), ("halves", ((1, 2),), ((1, 2),)), ("rest", ((1, 6),)))
        row = Row(((1, 6),))
        for _, inner, outer in told[1::-1]:
            row = around(Sides(inner, outer), row)
        self.assertEqual(pieces(row), told)

    def test_great_numbers(self):
        d = 10 ** 28
        sides = Sides(((2 * d, 3 * d),), ((3 * d, 2 * d),))
        self.assertEqual(alone_row(sides).kinds, ((5 * d - 1, 3 * d), (3 * d, 2 * d)))
        sides = Sides(((1, d),), ((1, d),))
        row = Row(((d, 2 * d),))
        self.assertEqual(around(sides, row).kinds, ((3 * d, d), (2 * d, 2 * d), (1, d)))
        self.assertEqual([sides, row], [Sides(((1, d),), ((1, d),)), Row(((d, 2 * d),))])

    def test_places_of_equal_degrees(self):
        self.assertEqual(around(Sides(((1, 1), (0, 1)), ((1, 1),)), Row(((2, 3),))).kinds, ((5, 1), (4, 4), (1, 1)))
        self.assertEqual(around(Sides(((1, 1),), ((1, 1),)), Row(((0, 3),))).kinds, ((4, 1), (1, 4)))
        self.assertEqual(alone_row(Sides(((2, 1), (0, 1)), ((1, 2),))).kinds, ((3, 1), (1, 3)))
        self.assertEqual(alone_row(Sides(((0, 1),), ((0, 1),))).kinds, ((0, 2),))

    def check_around(self, error, given, sides, row):
        self.check_error(error, {"given": given}, around, sides, row)
        self.check_error(error, {"given": given}, around, row=row, sides=sides)

    def check_alone(self, error, given, sides):
        self.check_error(error, {"given": given}, alone_row, sides)
        self.check_error(error, {"given": given}, alone_row, sides=sides)

    def test_too_great_degrees(self):
        """So great a degree needs more kinds, or more places of a kind, than a row may have: both errors are due."""
        sides = Sides(((2, MANY),), ((2, MANY),))
        for fewer, error, given in ((0, TooGreat, MOST + 1), (1, TooMany, 11), (2, TooMany, 11)):
            row = Row(((10, MANY - fewer),) + tuple((degree, MANY) for degree in range(9, 1, -1)))
            self.check_around(error, given, sides, row)
        for fewer, error, given in (
            (0, TooGreat, MOST + 8), (7, TooGreat, MOST + 1), (8, TooMany, 11), (9, TooMany, 11),
        ):
            inner = tuple((degree, MANY) for degree in range(9, 0, -1)) + ((0, MANY - fewer),)
            self.check_alone(error, given, Sides(inner, ((45 * 10 ** 11, 10 ** 19),)))
        wide = Sides(tuple((k, MANY) for k in range(10, 0, -1)), ((55 * 10 ** 11, 10 ** 19),))
        self.check_around(TooGreat, MOST + 14, wide, Row(((2, 5),)))

    def test_too_many_kinds(self):
        nested = [Sides(steps(k), steps(k)) for k in range(1, 6)]
        self.assertEqual([len(alone_row(sides)) for sides in nested], [1, 3, 5, 7, 9])
        self.assertEqual(len(around(nested[3], Row(((2, 1), (1, 2))))), 10)
        self.check_around(TooMany, 11, nested[3], Row(((3, 1), (2, 2), (1, 1))))
        self.check_around(TooMany, 11, nested[4], Row(((2, 5),)))
        self.check_around(TooMany, 12, nested[4], Row(((2, 1), (1, 2))))
        self.assertEqual(len(around(nested[3], Row(((1, 2), (0, 1))))), 9)
        self.assertEqual(len(alone_row(Sides(steps(5) + ((0, 1),), steps(5)))), 10)
        self.check_alone(TooMany, 11, Sides(steps(6), steps(6)))

    def test_too_great_counts(self):
        one = Sides(((1, 1),), ((1, 1),))
        self.assertEqual(around(one, Row(((0, MANY - 1),))).kinds, ((MANY, 1), (1, MANY)))
        self.check_around(TooMany, MANY + 1, one, Row(((0, MANY),)))
        self.assertEqual(alone_row(Sides(((MANY - 1, 1), (0, 1)), ((1, MANY - 1),))).kinds, ((MANY, 1), (1, MANY)))
        self.check_alone(TooMany, MANY + 1, Sides(((MANY, 1), (0, 1)), ((1, MANY),)))
        none = Sides(((0, 1),), ((0, 1),))
        self.assertEqual(around(none, Row(((MANY - 2, MANY - 1),))).kinds, ((MANY - 1, MANY), (0, 1)))
        self.check_around(TooMany, MANY + 1, none, Row(((MANY - 1, MANY),)))

    def test_kinds_come_ahead_of_counts(self):
        """An inner place without ties, and many outer ones that are tied to all others, have the same degree."""
        for k, given in ((1, MANY + 1), (2, MANY + 1), (5, MANY + 1), (6, 12), (7, 14)):
            inner = tuple((MANY + more, 1) for more in range(k - 1, -1, -1)) + ((0, 1),)
            self.check_alone(TooMany, given, Sides(inner, ((k, MANY),) + steps(k - 1)))


class WrongValues(Errors, unittest.TestCase):
    def test_values_that_are_no_sides(self):
        for value in strange() + strange_tuples() + [3, (), (((1, 2),), ((1, 2),)), ("halves", ((1, 2),), ((1, 2),))]:
            if isinstance(value, Sides):
                continue
            for call in (sides_can_be, sides_one, alone_row):
                self.check_error(NotSides, {"given": value}, call, value)
                self.check_error(NotSides, {"given": value}, call, sides=value)
            for row in (nest(), None, value, Row(((1, 1),))):
                self.check_error(NotSides, {"given": value}, around, value, row)
                self.check_error(NotSides, {"given": value}, around, row=row, sides=value)

    def test_values_that_are_no_rows(self):
        for value in strange() + strange_tuples() + [3, (), nest().text, nest().kinds]:
            if isinstance(value, Row):
                continue
            for sides in (path(), Sides(((3, 1),), ((1, 2),))):
                self.check_error(NotRow, {"given": value}, around, sides, value)
                self.check_error(NotRow, {"given": value}, around, row=value, sides=sides)

    def test_sides_and_rows_that_cannot_be(self):
        bad_row = Row(((3, 2), (1, 2)))
        for bad in (Sides(((3, 1),), ((1, 2),)), Sides(((1, 2),), ((1, 1),)), Sides(((2, MANY),), ((1, MANY),)),
                    Sides(((MOST, MANY),), ((MOST, MANY),))):
            self.assertIs(sides_can_be(bad), False)
            self.assertIs(sides_one(bad), False)
            self.check_error(Cannot, {"given": bad}, alone_row, bad)
            self.check_error(Cannot, {"given": bad}, alone_row, sides=bad)
            for row in (nest(), bad_row, Row(tuple((degree, MANY) for degree in range(10, 0, -1)))):
                self.check_error(Cannot, {"given": bad}, around, bad, row)
                self.check_error(Cannot, {"given": bad}, around, row=row, sides=bad)
        wide = Sides(tuple((k, MANY) for k in range(10, 0, -1)), ((55 * 10 ** 11, 10 ** 19),))
        for sides in (path(), wide):
            self.check_error(Cannot, {"given": bad_row}, around, sides, bad_row)
            self.check_error(Cannot, {"given": bad_row}, around, row=bad_row, sides=sides)

    def test_kinds_of_answers(self):
        self.assertIs(sides_can_be(path()), True)
        self.assertIs(sides_can_be(sides=path()), True)
        self.assertIs(sides_one(path()), True)
        self.assertIs(sides_one(sides=Sides(((2, 4),), ((2, 4),))), False)
        self.assertIs(type(alone_row(path())), Row)


if __name__ == "__main__":
    unittest.main()
