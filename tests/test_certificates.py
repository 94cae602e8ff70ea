import random
import unittest
from itertools import combinations_with_replacement

from degreerows.certain import bond, bonds
from degreerows.certificates import certify_bond, certify_can, certify_one, certify_two
from degreerows.checker import accepts
from degreerows.errors import Cannot, InvalidDegree, NotRow, TooMany
from degreerows.judging import can_be
from degreerows.rows import Row
from degreerows.single import has_one_web
from tests.helpers import Errors, nest, strange, strange_tuples
from tests.test_parting import some_pieces
from tests.webs import put_together, webs_by_degrees, words_of_pairs

MOST = 10 ** 31
MANY = 10 ** 30


def great_rows():
    d = 10 ** 27
    return [
        Row(((MANY, 1), (1, MANY))), Row(((3 * d, d), (2 * d, 2 * d), (1, d))), Row(((2, MANY),)), Row(((1, MANY),)),
        Row(((MANY - 1, MANY),)), Row(((0, MANY),)), Row(((2 * MANY - 1, MANY), (MANY, MANY))),
        Row(((2 * d + 2, 1), (2, 2 * d + 3))), Row(((MANY, MANY), (1, MANY))), Row(((d, 2 * d), (0, 7))),
        Row(tuple((10 * MANY - degree, MANY) for degree in range(1, 11))),
        Row(tuple((10 * degree, 100) for degree in range(10, 0, -1))), Row(((4, 1), (3, MANY), (2, MANY), (1, 4))),
        Row(tuple((degree, 1 if degree != 5 else 2) for degree in range(9, 0, -1))),
    ]


class Certificates(unittest.TestCase):
    def check_pair(self, pair, claim):
        """The pair is of this claim, and accepted."""
        self.assertIs(type(pair), tuple)
        told, certificate = pair
        self.assertEqual(told, claim)
        self.assertIs(type(told), tuple)
        self.assertIs(accepts(told, certificate), True, pair)
        return certificate

    def check_not(self, word, claim, certificate):
        self.assertIs(accepts((word, *claim[1:]), certificate), False)

    def check_can(self, row, can):
        pair = certify_can(row)
        word, other = ("can", "cannot") if can else ("cannot", "can")
        certificate = self.check_pair(pair, (word, row.text))
        self.check_not(other, *pair)
        self.assertIs(type(certificate), tuple if can else int)

    def check_one(self, row, one):
        pair = certify_one(row)
        if not one:
            self.assertIsNone(pair)
            return
        certificate = self.check_pair(pair, ("one", row.text))
        self.check_not("two", *pair)
        self.check_not("can", *pair)
        self.assertIs(type(certificate), tuple)

    def check_two(self, row, one):
        pair = certify_two(row)
        if one:
            self.assertIsNone(pair)
            return
        self.check_pair(pair, ("two", row.text))
        self.check_not("one", *pair)

    def check_bond(self, row, one, mate, word):
        pair = certify_bond(row, one, mate)
        certificate = self.check_pair(pair, (word, row.text, one, mate))
        self.assertIs(type(certificate), tuple if word == "open" else int)
        for other in {"tied", "apart", "open"} - {word}:
            self.check_not(other, *pair)
        self.assertIs(accepts((word, row.text, mate, one), certificate), True)

    def test_rows_of_up_to_six_places_against_all_webs(self):
        for places in range(1, 7):
            for degrees in combinations_with_replacement(range(places, -1, -1), places):
                row = Row.listed(degrees)
                webs = webs_by_degrees(places).get(degrees, [])
                self.check_can(row, len(webs) > 0)
                if len(webs) > 0:
                    self.check_one(row, len(webs) == 1)
                    self.check_two(row, len(webs) == 1)
                for (one, mate), word in words_of_pairs(webs).items():
                    self.check_bond(row, one, mate, word)
                    self.check_bond(row, mate, one, word)

    def test_drawn_rows_of_up_to_ten_places(self):
        chance = random.Random(91)
        for _ in range(250):
            places = chance.randint(7, 10)
            own = [chance.randint(0, places) for _ in range(chance.randint(1, 4))]
            row = Row.listed(tuple(chance.choice(own) for _ in range(places)))
            self.check_can(row, can_be(row))
            if can_be(row):
                self.check_one(row, has_one_web(row))
                self.check_two(row, has_one_web(row))
                for one, mate, word in bonds(row):
                    self.check_bond(row, one, mate, word)

    def test_great_rows(self):
        seen = set()
        for row in great_rows():
            self.check_can(row, True)
            self.check_one(row, has_one_web(row))
            for one, mate, word in bonds(row):
                self.check_bond(row, one, mate, word)
                seen.add(word)
        self.assertEqual(seen, {"tied", "apart", "open"})

    def test_drawn_pieces_with_great_numbers(self):
        chance = random.Random(92)
        seen = {True: 0, False: 0}
        for _ in range(1500):
            kinds = put_together(some_pieces(chance))
            if len(kinds) > 10 or max(many for _, many in kinds) > MANY:
                continue
            row = Row(kinds)
            self.check_can(row, True)
            self.check_one(row, has_one_web(row))
            one, mate, word = chance.choice(bonds(row) or [(None, None, None)])
            if word is not None:
                self.check_bond(row, one, mate, word)
            seen[has_one_web(row)] += 1
        self.assertGreater(min(seen.values()), 200)

    def test_great_rows_that_cannot_be(self):
        for kinds in (
            ((MOST, MANY), (0, 4)), ((MANY + 1, 2), (1, MANY)), ((MANY, MANY),), ((1, MANY - 1),), ((MOST, 1),),
            ((3 * MANY, MANY // 2), (1, MANY)), ((MANY, 2), (1, MANY)),
        ):
            self.check_can(Row(kinds), False)

    def test_certificates_are_as_told(self):
        self.assertEqual(certify_can(nest()), (("can", nest().text), ()))
        self.assertEqual(certify_can(Row(((1, 1),))), (("cannot", "row\n1 x 1"), 0))
        zero = Row(((1, 2), (0, 3)))
        for one, mate in ((1, 0), (0, 1), (0, 0)):
            self.assertEqual(certify_bond(zero, one, mate), (("apart", zero.text, one, mate), 0))
        self.assertEqual(certify_bond(nest(), 1, 7), (("open", nest().text, 1, 7), ()))
        for row in (nest(), zero, Row(((1, MANY),))):
            for one, mate, word in bonds(row):
                k = certify_bond(row, one, mate)[1]
                if word == "tied" or (word == "apart" and mate > 0):
                    self.assertIs(type(k), int)
                    self.assertGreater(k, 0)


class WrongValues(Errors, unittest.TestCase):
    def test_values_that_are_no_rows(self):
        for value in strange() + strange_tuples() + [3, (), nest().text, nest().kinds]:
            if isinstance(value, Row):
                continue
            for call in (certify_can, certify_one, certify_two):
                self.check_error(NotRow, {"given": value}, call, value)
                self.check_error(NotRow, {"given": value}, call, row=value)
            self.check_error(NotRow, {"given": value}, certify_bond, value, 7, 4)
            self.check_error(NotRow, {"given": value}, certify_bond, mate=None, one=value, row=value)

    def test_rows_that_cannot_be(self):
        for row, one, mate in (
            (Row(((3, 2), (1, 2))), 3, 1), (Row(((3, 2), (1, 2))), 3, 3), (Row(((2, 1), (1, 1))), 1, 2),
            (Row(((1, 1), (0, 2))), 0, 0), (Row(((MOST, 10),)), MOST, MOST),
        ):
            for call in (certify_one, certify_two):
                self.check_error(Cannot, {"given": row}, call, row)
                self.check_error(Cannot, {"given": row}, call, row=row)
            self.check_error(Cannot, {"given": row}, certify_bond, row, one, mate)
            self.check_error(Cannot, {"given": row}, certify_bond, mate=mate, one=one, row=row)

    def test_too_many_places(self):
        for kinds, places in (
            (((0, 11),), 11), (((10, 11),), 11), (((3, 11),), 11), (((2, MANY),), MANY),
            (((MOST, MANY), (0, 1)), MANY + 1),
        ):
            self.check_error(TooMany, {"given": places}, certify_two, Row(kinds))
            self.check_error(TooMany, {"given": places}, certify_two, row=Row(kinds))

    def test_wrong_degrees(self):
        bad = Row(((3, 2), (1, 2)))
        for value in strange() + strange_tuples() + [2, 0, -1, 8, 10 ** 90, "7", (7,), ()]:
            for row, right in ((nest(), 7), (bad, 3)):
                self.check_error(InvalidDegree, {"given": value}, certify_bond, row, value, right)
                self.check_error(InvalidDegree, {"given": value}, certify_bond, row, right, value)
                self.check_error(InvalidDegree, {"given": value}, certify_bond, mate=None, one=value, row=row)
        self.check_error(InvalidDegree, {"given": 2}, certify_bond, Row(((2, 1), (1, 2))), 2, 2)
        self.check_error(InvalidDegree, {"given": 0}, certify_bond, Row(((2, 1), (0, 1))), 0, 0)

    def test_nothing_is_changed_and_equal_answers(self):
        row = nest()
        for call in (certify_can, certify_one, certify_two):
            self.assertEqual(call(row), call(row=nest()))
        self.assertEqual(certify_bond(row, 7, 4), certify_bond(mate=4, one=7, row=nest()))
        self.assertEqual(certify_bond(row, 7, 4)[0][0], bond(row, 7, 4))
        self.assertEqual(row, nest())
        for call in (certify_can, certify_one, certify_two, certify_bond):
            self.assertEqual(call.__module__, "degreerows.certificates")


if __name__ == "__main__":
    unittest.main()
