import random
import unittest
from itertools import combinations_with_replacement

from degreerows.errors import Cannot, NotRow
from degreerows.judging import can_be
from degreerows.parting import is_whole, pieces
from degreerows.rows import Row
from tests.helpers import Errors, nest, strange, strange_tuples
from tests.webs import parted_by_hand, put_together

MANY = 10 ** 30


def all_rows(places):
    for degrees in combinations_with_replacement(range(places - 1, -1, -1), places):
        row = Row.listed(degrees)
        if can_be(row):
            yield degrees, row


def some_stars(chance, most):
    """Halves of a family, with great numbers."""
    kinds = sorted({chance.randint(1, 10 ** chance.randint(1, most)) for _ in range(chance.randint(1, 2))})
    inner = tuple((degree, chance.randint(2, 10 ** chance.randint(1, most))) for degree in reversed(kinds))
    return ("halves", inner, ((1, sum(degree * many for degree, many in inner)),))


def some_bridge(chance, most):
    a = chance.randint(3, 10 ** chance.randint(1, most))
    r = chance.randint(2, 10 ** chance.randint(1, most))
    one = chance.randint(2, a - 1)
    return ("halves", ((r, a),), ((one, 1), (1, r * a - one)))


def some_crown(chance, most):
    a = chance.randint(4, 10 ** chance.randint(1, most))
    r = chance.randint(2, 10 ** chance.randint(1, most))
    return ("halves", (((a - 1) * r - 2, 1), (r, a - 1)), ((2, (a - 1) * r - 1),))


def some_even_sides(chance, most):
    """Halves that leave a choice: each inner place has r ties, each outer one s."""
    r, s = chance.randint(2, 9), chance.randint(2, 9)
    many = chance.randint(2, 10 ** chance.randint(1, most))
    return ("halves", ((r, s * 5 * many),), ((s, r * 5 * many),))


def some_halves(chance, most=12):
    make = chance.choice([some_stars, some_bridge, some_crown, some_even_sides])
    word, inner, outer = make(chance, most)
    if chance.random() < 0.5:
        a = sum(many for _, many in inner)
        b = sum(many for _, many in outer)
        inner = tuple((b - degree, many) for degree, many in inner[::-1])
        outer = tuple((a - degree, many) for degree, many in outer[::-1])
    if chance.random() < 0.3:
        a = sum(many for _, many in inner)
        b = sum(many for _, many in outer)
        inner, outer = (
            tuple((a - degree, many) for degree, many in outer[::-1]),
            tuple((b - degree, many) for degree, many in inner[::-1]),
        )
    return (word, inner, outer)


def some_rest(chance):
    m = chance.randint(1, 10 ** chance.randint(1, 20))
    s = chance.randint(2, 10 ** chance.randint(1, 20))
    d = chance.randint(2, 10 ** chance.randint(1, 20))
    kinds = chance.choice([
        ((2, 5),), ((1, 2 * m + 2),), ((s, 1), (1, s + 2 * m)), ((2 * m + 2, 1), (2, 2 * m + 3)), ((2, m + 5),),
        ((d, 2 * d + 2 * m),), ((d + 1, 4 * d), (d, 2 * m)), ((3, 2), (1, 8)),
    ])
    n = sum(many for _, many in kinds)
    if chance.random() < 0.5:
        kinds = tuple((n - 1 - degree, many) for degree, many in kinds[::-1])
    return ("rest", kinds)


def some_pieces(chance):
    """Pieces that follow one another in the row that they make."""
    found = []
    for _ in range(chance.randint(0, 4)):
        word = chance.choice(["alone", "tied", "halves"])
        if word == "halves":
            found.append(some_halves(chance))
        elif not found or found[-1][0] != word:
            found.append((word, chance.randint(1, 10 ** chance.randint(1, 30))))
    last = chance.choice(["alone", "tied", "halves", "rest"])
    if last == "halves":
        return tuple(found) + (some_halves(chance),)
    if last == "rest" or (found and found[-1][0] == last):
        return tuple(found) + (some_rest(chance),)
    return tuple(found) + ((last, chance.randint(2, 10 ** chance.randint(1, 30))),)


class SmallRows(unittest.TestCase):
    def test_rows_of_up_to_eight_places_place_by_place(self):
        for places in range(1, 9):
            for degrees, row in all_rows(places):
                told = pieces(row)
                self.assertEqual(told, parted_by_hand(list(degrees)), degrees)
                self.assertEqual(put_together(told), row.kinds)
                whole = len(told) == 1 and told[0][0] in ("halves", "rest")
                self.assertIs(is_whole(row), whole, degrees)

    def test_pieces_cannot_be_parted(self):
        for places in range(1, 8):
            for _, row in all_rows(places):
                for piece in pieces(row):
                    self.assertEqual(parted_by_hand(degrees_by_themselves(piece)), (simple(piece),))


def degrees_by_themselves(piece):
    return [degree for degree, many in put_together((piece,)) for _ in range(many)]


def simple(piece):
    """A place by itself is alone, also as a piece that is tied."""
    return ("alone", 1) if piece == ("tied", 1) else piece


class LongerRows(unittest.TestCase):
    def test_drawn_rows_place_by_place(self):
        chance = random.Random(1)
        seen = {}
        for most in (9, 14, 25, 40):
            for _ in range(2500):
                own = [chance.randint(0, most) for _ in range(chance.randint(1, 10))]
                degrees = sorted([chance.choice(own) for _ in range(chance.randint(2, most))], reverse=True)
                row = Row.listed(tuple(degrees))
                if not can_be(row):
                    continue
                told = pieces(row)
                self.assertEqual(told, parted_by_hand(degrees), degrees)
                self.assertEqual(put_together(told), row.kinds)
                for piece in told:
                    seen[piece[0]] = seen.get(piece[0], 0) + 1
        self.assertGreater(min(seen.get(word, 0) for word in ("alone", "tied", "rest")), 100)

    def test_drawn_webs_of_two_sides_and_a_middle(self):
        """Rows that have halves, often also within."""
        chance = random.Random(2)
        seen = 0
        for _ in range(1500):
            degrees = drawn_degrees(chance, 4)
            kinds = {degree for degree in degrees}
            if len(kinds) > 10:
                continue
            row = Row.listed(tuple(degrees))
            told = pieces(row)
            self.assertEqual(told, parted_by_hand(degrees), degrees)
            self.assertEqual(put_together(told), row.kinds)
            seen += "halves" in [piece[0] for piece in told[:-1]]
        self.assertGreater(seen, 300)


def drawn_degrees(chance, depth):
    """The degrees, greatest first, of webs of two sides around one another."""
    degrees = [2] * chance.choice([0, 0, 3, 5])
    for _ in range(chance.randint(1, depth)):
        a, b = chance.randint(1, 4), chance.randint(1, 4)
        ties = [[chance.randint(0, 1) for _ in range(b)] for _ in range(a)]
        inner = [sum(row) + a - 1 + len(degrees) for row in ties]
        degrees = inner + [degree + a for degree in degrees] + [sum(column) for column in zip(*ties)]
    return sorted(degrees, reverse=True)


class Edges(unittest.TestCase):
    def check_pieces(self, kinds, *told):
        row = Row(kinds)
        self.assertEqual(pieces(row), told)
        self.assertIs(is_whole(row), len(told) == 1 and told[0][0] in ("halves", "rest"))
        self.assertEqual(put_together(told), kinds)

    def test_all_alone_and_all_tied(self):
        self.check_pieces(((0, 1),), ("alone", 1))
        self.check_pieces(((0, 7),), ("alone", 7))
        self.check_pieces(((0, MANY),), ("alone", MANY))
        self.check_pieces(((1, 2),), ("tied", 2))
        self.check_pieces(((6, 7),), ("tied", 7))
        self.check_pieces(((MANY - 1, MANY),), ("tied", MANY))

    def test_alone_and_tied_one_behind_another(self):
        self.check_pieces(((1, 2), (0, 3)), ("alone", 3), ("tied", 2))
        self.check_pieces(((4, 2), (2, 3)), ("tied", 2), ("alone", 3))
        self.check_pieces(((3, 1), (2, 2), (1, 1), (0, 1)), ("alone", 1), ("tied", 1), ("alone", 1), ("tied", 2))
        self.check_pieces(((2, 1), (1, 2)), ("tied", 1), ("alone", 2))
        self.check_pieces(((1, 2), (0, 1)), ("alone", 1), ("tied", 2))
        self.check_pieces(
            tuple((degree, 1 if degree != 5 else 2) for degree in range(9, 0, -1)),
            ("tied", 1), ("alone", 1), ("tied", 1), ("alone", 1), ("tied", 1), ("alone", 1), ("tied", 1), ("alone", 1),
            ("tied", 2),
        )

    def test_ten_kinds_of_places_alone_and_tied(self):
        m = 10 ** 27
        told = (("tied", m), ("alone", 2 * m)) * 4 + (("tied", 3 * m), ("alone", m))
        row = Row(put_together(told))
        self.assertEqual(len(row), 10)
        self.assertEqual(pieces(row), told)

    def test_halves_as_the_last_piece_and_within(self):
        path = ("halves", ((1, 2),), ((1, 2),))
        self.check_pieces(((2, 2), (1, 2)), path)
        self.check_pieces(((2, 2), (1, 2), (0, 4)), ("alone", 4), path)
        self.check_pieces(((7, 2), (4, 5), (1, 2)), path, ("rest", ((2, 5),)))
        self.check_pieces(((6, 2), (4, 2), (3, 2), (1, 2)), path, path)
        self.check_pieces(((10, 2), (8, 2), (6, 2), (5, 2), (3, 2), (1, 2)), path, path, path)
        self.check_pieces(((3, 2), (2, 1), (1, 2)), path, ("alone", 1))
        self.check_pieces(((4, 2), (3, 2), (1, 2)), path, ("tied", 2))
        self.check_pieces(((4, 2), (2, 2), (1, 2)), path, ("alone", 2))
        self.check_pieces(((9, 1), (8, 2), (5, 5), (2, 2)), ("tied", 1), path, ("rest", ((2, 5),)))
        self.check_pieces(
            ((10, 1), (8, 2), (5, 5), (2, 2), (1, 1)), ("tied", 1), ("alone", 1), path, ("rest", ((2, 5),)),
        )
        self.check_pieces(((7, 2), (4, 5), (1, 2), (0, 9)), ("alone", 9), path, ("rest", ((2, 5),)))

    def test_rests(self):
        for kinds in (((2, 4),), ((2, 5),), ((2, 6),), ((1, 4),), ((2, 1), (1, 4)), ((4, 1), (2, 5)), ((3, 6),)):
            self.check_pieces(kinds, ("rest", kinds))

    def test_great_rests_and_halves(self):
        d = 10 ** 29
        self.check_pieces(((d, 2 * d),), ("rest", ((d, 2 * d),)))
        self.check_pieces(((d, 2 * d), (0, d)), ("alone", d), ("rest", ((d, 2 * d),)))
        self.check_pieces(((d, d), (1, d)), ("halves", ((1, d),), ((1, d),)))
        self.check_pieces(((2 * d - 1, d), (d, d)), ("tied", d), ("alone", d))
        self.check_pieces(((MANY, MANY), (1, MANY)), ("halves", ((1, MANY),), ((1, MANY),)))
        self.check_pieces(((MANY, 1), (1, MANY)), ("tied", 1), ("alone", MANY))

    def test_drawn_pieces_with_great_numbers(self):
        chance = random.Random(3)
        seen = {}
        for _ in range(4000):
            told = some_pieces(chance)
            kinds = put_together(told)
            if len(kinds) > 10 or max(many for _, many in kinds) > MANY:
                continue
            row = Row(kinds)
            self.assertIs(can_be(row), True, told)
            self.assertEqual(pieces(row), told)
            self.assertIs(is_whole(row), len(told) == 1 and told[0][0] in ("halves", "rest"))
            for index, piece in enumerate(told):
                key = (piece[0], index == len(told) - 1)
                seen[key] = seen.get(key, 0) + 1
        self.assertEqual(len(seen), 7)
        self.assertGreater(min(seen.values()), 200)


class WrongValues(Errors, unittest.TestCase):
    def test_values_that_are_no_rows(self):
        for value in strange() + strange_tuples() + [3, (), nest().text, nest().kinds]:
            if isinstance(value, Row):
                continue
            for call in (pieces, is_whole):
                self.check_error(NotRow, {"given": value}, call, value)
                self.check_error(NotRow, {"given": value}, call, row=value)

    def test_rows_that_cannot_be(self):
        for row in (Row.listed((3, 3, 1, 1)), Row.listed((2, 1)), Row(((1, 1),)), Row(((MANY, MANY),))):
            for call in (pieces, is_whole):
                self.check_error(Cannot, {"given": row}, call, row)
                self.check_error(Cannot, {"given": row}, call, row=row)

    def test_by_name_and_kinds_of_answers(self):
        row = nest()
        self.assertEqual([pieces(row=row), is_whole(row=row)], [pieces(row), is_whole(row)])
        self.assertEqual(row, nest())
        self.assertIs(is_whole(Row(((2, 5),))), True)
        self.assertIs(is_whole(Row(((0, 5),))), False)
        for piece in pieces(row):
            self.assertIs(type(piece), tuple)
            for kinds in piece[1:]:
                self.assertIs(type(kinds), tuple)
                for kind in kinds:
                    self.assertIs(type(kind), tuple)
        for call in (pieces, is_whole):
            self.assertEqual(call.__module__, "degreerows.parting")


if __name__ == "__main__":
    unittest.main()
