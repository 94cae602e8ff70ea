import random
import unittest
from itertools import combinations_with_replacement

from degreerows.certain import bond, bonds
from degreerows.errors import Cannot, InvalidDegree, NotRow, TooMany
from degreerows.judging import can_be
from degreerows.rows import Row
from degreerows.single import has_one_web
from tests.helpers import Errors, nest, strange, strange_tuples
from tests.webs import webs_by_degrees, words_of_pairs

MANY = 10 ** 30


class SmallRows(unittest.TestCase):
    def test_rows_of_up_to_seven_places_against_all_webs(self):
        seen = {}
        for places in range(1, 8):
            for degrees, webs in webs_by_degrees(places).items():
                row = Row.listed(degrees)
                words = words_of_pairs(webs)
                told = tuple((*pair, words[pair]) for pair in sorted(words, reverse=True))
                self.assertEqual(bonds(row), told, degrees)
                for (one, mate), word in words.items():
                    self.assertEqual(bond(row, one, mate), word)
                    self.assertEqual(bond(row, mate, one), word)
                    seen[word] = seen.get(word, 0) + 1
        self.assertGreater(min(seen[word] for word in ("tied", "apart", "open")), 300)

    def test_raised_rows_tell_the_same(self):
        for degrees in combinations_with_replacement(range(7, -1, -1), 8):
            row = Row.listed(degrees)
            if not can_be(row):
                continue
            for one, mate, word in bonds(row):
                self.assertIs(word == "tied", not can_be(row.raised(one, mate, 1)))
                apart = mate == 0 or not can_be(row.raised(one, mate, -1))
                self.assertIs(word == "apart", apart and word != "tied")


class Edges(unittest.TestCase):
    def test_one_place_and_no_ties(self):
        self.assertEqual(bonds(Row(((0, 1),))), ())
        self.assertEqual(bonds(Row(((0, 2),))), ((0, 0, "apart"),))
        self.assertEqual(bonds(Row(((1, 2), (0, 1)))), ((1, 1, "tied"), (1, 0, "apart")))
        self.assertEqual(bonds(Row(((1, 2), (0, MANY)))), ((1, 1, "tied"), (1, 0, "apart"), (0, 0, "apart")))
        self.assertEqual(bonds(Row(((1, 2),))), ((1, 1, "tied"),))
        self.assertEqual(bonds(Row(((1, 4),))), ((1, 1, "open"),))

    def test_degrees_that_one_place_has(self):
        self.assertEqual(
            bonds(Row(((3, 1), (2, 2), (1, 1)))), ((3, 2, "tied"), (3, 1, "tied"), (2, 2, "tied"), (2, 1, "apart")),
        )
        self.assertEqual(bonds(Row(((4, 1), (2, 5)))), ((4, 2, "open"), (2, 2, "open")))
        self.assertEqual(bonds(Row(((2, 1), (1, 2)))), ((2, 1, "tied"), (1, 1, "apart")))

    def test_ten_kinds(self):
        """A place more of each of two degrees makes twelve kinds; that is no error here."""
        row = Row(tuple((10 * degree, 100) for degree in range(10, 0, -1)))
        with self.assertRaises(TooMany):
            row.raised(100, 50, 1)
        told = bonds(row)
        self.assertEqual(len(told), 55)
        self.assertEqual([pair[:2] for pair in told], sorted([pair[:2] for pair in told], reverse=True))
        self.assertEqual({word for _, _, word in told}, {"open"})
        single = Row(tuple((degree, 1 if degree != 5 else 2) for degree in range(9, 0, -1)))
        words = {(one, mate): word for one, mate, word in bonds(single)}
        self.assertEqual(len(words), 37)
        for (one, mate), word in words.items():
            self.assertEqual(word, "tied" if one + mate >= 10 else "apart")

    def test_great_numbers(self):
        d = 10 ** 27
        row = Row(((3 * d, d), (2 * d, 2 * d), (1, d)))
        self.assertEqual(
            bonds(row),
            ((3 * d, 3 * d, "tied"), (3 * d, 2 * d, "tied"), (3 * d, 1, "open"), (2 * d, 2 * d, "open"),
             (2 * d, 1, "apart"), (1, 1, "apart")),
        )
        self.assertEqual(bonds(Row(((MANY, 1), (1, MANY)))), ((MANY, 1, "tied"), (1, 1, "apart")))
        self.assertEqual(bond(Row(((MANY - 1, MANY),)), MANY - 1, MANY - 1), "tied")
        self.assertEqual(bond(Row(((MANY - 2, MANY),)), MANY - 2, MANY - 2), "open")
        self.assertEqual(bond(Row(((0, MANY),)), 0, 0), "apart")
        self.assertEqual(
            bonds(Row(((MANY, MANY), (1, MANY)))), ((MANY, MANY, "tied"), (MANY, 1, "open"), (1, 1, "apart")),
        )

    def test_counts_at_the_limit(self):
        row = Row(((4, 1), (3, MANY), (2, MANY), (1, 4)))
        with self.assertRaises(TooMany):
            row.raised(2, 1, 1)
        self.assertEqual({word for _, _, word in bonds(row)}, {"open"})

    def test_degrees_at_the_limit(self):
        """As great as a degree can be in a row that can be: tied to all other places of ten kinds."""
        row = Row(((10 * MANY - 1, MANY),) + tuple((MANY + degree, MANY) for degree in range(10, 1, -1)))
        for one, mate, word in bonds(row):
            self.assertEqual(word, "tied" if one == 10 * MANY - 1 else "open")
            self.assertEqual(bond(row, mate, one), word)
        full = Row(((2 * MANY - 1, MANY), (MANY, MANY)))
        self.assertEqual(
            bonds(full), ((2 * MANY - 1, 2 * MANY - 1, "tied"), (2 * MANY - 1, MANY, "tied"), (MANY, MANY, "apart")),
        )

    def test_opposite_rows_are_tied_where_these_are_apart(self):
        chance = random.Random(11)
        other = {"tied": "apart", "apart": "tied", "open": "open"}
        seen = {"tied": 0, "apart": 0, "open": 0}
        for _ in range(3000):
            own = [chance.randint(0, 19) for _ in range(chance.randint(1, 6))]
            row = Row.listed(tuple(chance.choice(own) for _ in range(20)))
            if not can_be(row):
                continue
            turned = row.opposite()
            for one, mate, word in bonds(row):
                self.assertEqual(bond(turned, 19 - one, 19 - mate), other[word])
                seen[word] += 1
        self.assertGreater(min(seen.values()), 100)

    def test_where_nothing_is_open_there_is_one_web(self):
        for degrees in combinations_with_replacement(range(6, -1, -1), 7):
            row = Row.listed(degrees)
            if can_be(row) and "open" not in [word for _, _, word in bonds(row)]:
                self.assertIs(has_one_web(row), True)


class WrongValues(Errors, unittest.TestCase):
    def check_bond(self, error, given, row, one, mate):
        self.check_error(error, {"given": given}, bond, row, one, mate)
        self.check_error(error, {"given": given}, bond, mate=mate, one=one, row=row)

    def test_values_that_are_no_rows(self):
        for value in strange() + strange_tuples() + [3, (), nest().text, nest().kinds]:
            if isinstance(value, Row):
                continue
            self.check_error(NotRow, {"given": value}, bonds, value)
            self.check_error(NotRow, {"given": value}, bonds, row=value)
            self.check_bond(NotRow, value, value, 7, 4)
            self.check_bond(NotRow, value, value, None, value)

    def test_wrong_degrees(self):
        bad = Row(((3, 2), (1, 2)))
        for value in strange() + strange_tuples() + [2, 0, -1, 8, 10 ** 50, "7", (7,), ()]:
            self.check_bond(InvalidDegree, value, nest(), value, 7)
            self.check_bond(InvalidDegree, value, nest(), 7, value)
            self.check_bond(InvalidDegree, value, nest(), value, "x")
            self.check_bond(InvalidDegree, value, bad, value, 3)
            self.check_bond(InvalidDegree, value, bad, 3, value)

    def test_true_and_false_are_no_degrees(self):
        row = Row(((1, 2), (0, 2)))
        for value in (True, False):
            self.check_bond(InvalidDegree, value, row, value, 1)
            self.check_bond(InvalidDegree, value, row, 1, value)
        self.assertEqual([bond(row, 1, 1), bond(row, 1, 0), bond(row, 0, 0)], ["tied", "apart", "apart"])

    def test_a_degree_that_one_place_alone_has(self):
        row = Row(((2, 1), (1, 2)))
        self.check_bond(InvalidDegree, 2, row, 2, 2)
        self.assertEqual(bond(row, 1, 1), "apart")
        self.check_bond(InvalidDegree, 1, Row(((1, 1),)), 1, 1)
        self.check_bond(InvalidDegree, 0, Row(((0, 1),)), 0, 0)

    def test_rows_that_cannot_be(self):
        for row, one, mate in (
            (Row(((3, 2), (1, 2))), 3, 1), (Row(((3, 2), (1, 2))), 3, 3), (Row(((2, 1), (1, 1))), 1, 2),
            (Row(((10 ** 31, 2), (0, MANY))), 10 ** 31, 0), (Row(((10 ** 31, 2),)), 10 ** 31, 10 ** 31),
            (Row(((1, 1), (0, 2))), 0, 0),
        ):
            self.check_bond(Cannot, row, row, one, mate)
            self.check_error(Cannot, {"given": row}, bonds, row)
            self.check_error(Cannot, {"given": row}, bonds, row=row)

    def test_nothing_is_changed_and_kinds_of_answers(self):
        row = nest()
        self.assertEqual(bond(row=row, one=7, mate=4), bond(row, 7, 4))
        self.assertEqual(bonds(row=row), bonds(row))
        self.assertEqual(row, nest())
        self.assertIs(type(bonds(row)), tuple)
        self.assertEqual({type(triple) for triple in bonds(row)}, {tuple})
        for call in (bond, bonds):
            self.assertEqual(call.__module__, "degreerows.certain")


if __name__ == "__main__":
    unittest.main()
