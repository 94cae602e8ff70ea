import random
import unittest
from itertools import combinations_with_replacement

from degreerows.errors import Cannot, InvalidPiece, NotRow
from degreerows.judging import can_be
from degreerows.parting import pieces
from degreerows.rows import Row
from degreerows.sides import Sides
from degreerows.single import family, faults, has_one_web
from tests.helpers import Errors, Odd, nest, path, strange, strange_tuples
from tests.webs import kinds_of, put_together, webs_by_degrees

MANY = 10 ** 30


def rest_reads(degrees):
    n = len(degrees)
    return [("plain", degrees), ("opposite", [n - 1 - degree for degree in degrees])]


def rest_family_by_hand(degrees):
    """The words of point 10, place by place."""
    n = len(degrees)
    lists = {
        "ring": [[2] * 5],
        "pairs": [[1] * n] if n >= 4 and n % 2 == 0 else [],
        "star": [[1] * (n - 1) + [s] for s in range(2, n) if n - 1 - s >= 2 and (n - 1 - s) % 2 == 0],
        "hub": [[2] * (2 * m + 3) + [2 * m + 2] for m in range(1, n)],
    }
    for word in ("ring", "pairs", "star", "hub"):
        for reading, read in rest_reads(degrees):
            if min(read) >= 0 and sorted(read) in lists[word]:
                return (word, reading)
    return None


def halves_reads(inner, outer):
    a, b = len(inner), len(outer)
    turned_inner, turned_outer = [b - degree for degree in inner], [a - degree for degree in outer]
    return [
        ("plain", inner, outer), ("exchanged", outer, inner), ("opposite", turned_outer, turned_inner),
        ("turned", turned_inner, turned_outer),
    ]


def are_all_but_one(degrees, one, others):
    left = list(degrees)
    left.remove(one)
    return all(degree == others for degree in left)


def fits_by_hand(word, inner, outer):
    a, b = len(inner), len(outer)
    if word == "stars":
        return a >= 2 and min(inner) >= 1 and outer == [1] * b
    if word == "bridge":
        return inner == [inner[0]] * a and inner[0] >= 2 and any(
            2 <= one <= a - 1 and are_all_but_one(outer, one, 1) for one in outer
        )
    return a >= 4 and outer == [2] * b and b - 1 in inner and any(
        r >= 2 and are_all_but_one(inner, b - 1, r) for r in inner
    )


def halves_family_by_hand(inner, outer):
    if sum(inner) != sum(outer):
        return None
    for word in ("stars", "bridge", "crown"):
        for reading, read_inner, read_outer in halves_reads(inner, outer):
            if min(read_inner + read_outer) >= 0 and fits_by_hand(word, read_inner, read_outer):
                return (word, reading)
    return None


def lists_of_degrees(places, most):
    return [list(degrees) for degrees in combinations_with_replacement(range(most, -1, -1), places)]


class RestsByHand(unittest.TestCase):
    def test_all_small_rests(self):
        """Also those that cannot be, or could be parted."""
        seen = {}
        for places in range(1, 9):
            for degrees in lists_of_degrees(places, places + 1):
                told = family(("rest", kinds_of(degrees)))
                self.assertEqual(told, rest_family_by_hand(degrees), degrees)
                seen[told] = seen.get(told, 0) + 1
        self.assertEqual(len(seen), 8)

    def check_rest(self, told, kinds):
        self.assertEqual(family(("rest", kinds)), told)
        self.assertEqual(family(piece=("rest", kinds)), told)
        n = sum(many for _, many in kinds)
        other = tuple((n - 1 - degree, many) for degree, many in kinds[::-1])
        if told is None or kinds == other:
            self.assertEqual(family(("rest", other)), told)
        else:
            self.assertEqual(family(("rest", other)), (told[0], "opposite"))

    def test_ring(self):
        self.check_rest(("ring", "plain"), ((2, 5),))
        for kinds in (((2, 6),), ((2, 7),), ((3, 8),), ((2, 10 ** 20),)):
            self.check_rest(None, kinds)
        self.assertIsNone(family(("rest", ((2, 3),))))

    def test_pairs(self):
        for m in (2, 3, 4, 10 ** 26, 5 * 10 ** 29):
            self.check_rest(("pairs", "plain"), ((1, 2 * m),))
        for many in (2, 3, 5, 10 ** 26 + 1, 10 ** 30 - 1):
            self.check_rest(None, ((1, many),))

    def test_star(self):
        for s in (2, 3, 10 ** 27, 10 ** 27 + 1):
            for m in (1, 2, 10 ** 26):
                self.check_rest(("star", "plain"), ((s, 1), (1, s + 2 * m)))
                self.check_rest(None, ((s, 1), (1, s + 2 * m + 1)))
                self.check_rest(None, ((s, 2), (1, s + 2 * m)))
            self.check_rest(None, ((s, 1), (1, s)))
            self.check_rest(None, ((s, 1), (1, s + 1)))
        self.check_rest(None, ((2, 3), (1, 4)))
        self.assertIsNone(family(("rest", ((4, 1), (1, 2)))))
        self.check_rest(None, ((3, 1), (2, 1), (1, 5)))

    def test_hub(self):
        for m in (1, 2, 3, 10 ** 27):
            self.check_rest(("hub", "plain"), ((2 * m + 2, 1), (2, 2 * m + 3)))
            self.check_rest(None, ((2 * m + 2, 1), (2, 2 * m + 4)))
            self.check_rest(None, ((2 * m + 2, 1), (2, 2 * m + 2)))
            self.check_rest(None, ((2 * m + 3, 1), (2, 2 * m + 4)))
            self.check_rest(None, ((2 * m + 2, 2), (2, 2 * m + 3)))
            self.check_rest(None, ((2 * m + 2, 1), (2, 2 * m + 3), (1, 2)))
        self.check_rest(None, ((3, 1), (2, 4)))
        self.check_rest(None, ((4, 1), (1, 5)))

    def test_rests_without_another_reading(self):
        for kinds in (((5, 2), (1, 4)), ((10 ** 31, 1),), ((10 ** 31, 1), (1, 4)), ((4, 1), (3, 3)), ((6, 6),)):
            self.assertIsNone(family(("rest", kinds)))


class HalvesByHand(unittest.TestCase):
    def test_all_small_halves(self):
        """Also those that cannot be, or could be parted."""
        seen = {}
        for a, b in [(a, b) for a in range(1, 7) for b in range(1, 7) if a + b <= 8]:
            for inner in lists_of_degrees(a, b + 1):
                for outer in lists_of_degrees(b, a + 1):
                    if abs(sum(inner) - sum(outer)) > 1:
                        continue
                    told = family(("halves", kinds_of(inner), kinds_of(outer)))
                    self.assertEqual(told, halves_family_by_hand(inner, outer), (inner, outer))
                    seen[told] = seen.get(told, 0) + 1
        self.assertGreaterEqual(len(seen), 9)

    def test_crowns_place_by_place(self):
        seen = {}
        for a, r in [(4, 1), (4, 2), (4, 3), (5, 1), (5, 2), (6, 2), (3, 2), (3, 3), (3, 4), (2, 2), (2, 5), (7, 3)]:
            b = (a - 1) * r - 1
            for b, first in ((b, b - 1), (b + 1, b), (b + 1, b - 1), (b - 1, b - 2)):
                if first < 0 or b < 1:
                    continue
                inner, outer = [first] + [r] * (a - 1), [2] * b
                for reading, read_inner, read_outer in halves_reads(sorted(inner, reverse=True), outer):
                    if min(read_inner + read_outer) < 0:
                        continue
                    read_inner, read_outer = sorted(read_inner, reverse=True), sorted(read_outer, reverse=True)
                    told = family(("halves", kinds_of(read_inner), kinds_of(read_outer)))
                    self.assertEqual(told, halves_family_by_hand(read_inner, read_outer), (read_inner, read_outer))
                    seen[told] = seen.get(told, 0) + 1
        for reading in ("plain", "exchanged", "opposite", "turned"):
            self.assertGreaterEqual(seen[("crown", reading)], 5)

    def check_halves(self, word, inner, outer):
        """The sides in the four readings; none of these sides is the same in two of them."""
        for reading in ("plain", "exchanged", "opposite", "turned"):
            read = Sides(inner, outer).turned(reading)
            told = None if word is None else (word, reading)
            self.assertEqual(family(("halves", read.inner, read.outer)), told)

    def test_stars(self):
        self.assertEqual(family(("halves", ((1, 2),), ((1, 2),))), ("stars", "plain"))
        self.assertEqual(family(("halves", ((1, 3),), ((1, 3),))), ("stars", "plain"))
        self.assertEqual(family(("halves", ((2, 3),), ((2, 3),))), ("stars", "opposite"))
        self.assertEqual(family(("halves", ((2, 2),), ((1, 4),))), ("stars", "plain"))
        self.assertEqual(family(("halves", ((1, 4),), ((2, 2),))), ("stars", "exchanged"))
        self.check_halves("stars", ((2, 3),), ((1, 6),))
        self.check_halves("stars", ((2, 1), (1, 2)), ((1, 4),))
        self.check_halves("stars", ((10 ** 27, 3), (5, 10 ** 26), (1, 10 ** 27)), ((1, 45 * 10 ** 26),))
        for inner, outer in (
            (((2, 1),), ((1, 2),)), (((1, 1),), ((1, 1),)), (((1, 2), (0, 1)), ((1, 2),)), (((2, 3),), ((1, 5),)),
            (((2, 3),), ((1, 7),)), (((2, 3),), ((1, 6), (0, 1))), (((2, 4),), ((2, 4),)),
            (((3, 4),), ((3, 4), (0, 1))),
        ):
            self.assertIsNone(family(("halves", inner, outer)))

    def test_bridge(self):
        self.check_halves("bridge", ((2, 3),), ((2, 1), (1, 4)))
        self.check_halves("bridge", ((2, 4),), ((3, 1), (1, 5)))
        self.check_halves("bridge", ((5, 10 ** 27),), ((10 ** 27 - 1, 1), (1, 4 * 10 ** 27 + 1)))
        self.check_halves("bridge", ((10 ** 20, 10 ** 7),), ((2, 1), (1, 10 ** 27 - 2)))
        self.check_halves(None, ((2, 4),), ((3, 2), (1, 2)))
        self.check_halves(None, ((2, 4),), ((2, 2), (1, 4)))
        self.check_halves(None, ((3, 1), (2, 3)), ((2, 1), (1, 7)))
        for inner, outer in (
            (((2, 3),), ((3, 1), (1, 3))), (((2, 2),), ((2, 1), (1, 2))), (((2, 3),), ((2, 1), (1, 5))),
            (((2, 4),), ((4, 1), (1, 4))), (((5, 10 ** 27),), ((10 ** 27, 1), (1, 4 * 10 ** 27))),
            (((5, 10 ** 27),), ((10 ** 27 - 1, 1), (1, 4 * 10 ** 27))), (((2, 3),), ((2, 1), (1, 3), (0, 1))),
            (((1, 3),), ((2, 1), (1, 1))),
        ):
            self.assertEqual(family(("halves", inner, outer)), by_hand_if_small(inner, outer))

    def test_crown(self):
        self.check_halves("crown", ((4, 1), (2, 3)), ((2, 5),))
        self.check_halves("crown", ((6, 1), (2, 4)), ((2, 7),))
        self.check_halves("crown", ((7, 1), (3, 3)), ((2, 8),))
        r, others = 10 ** 13 + 1, 10 ** 14
        self.check_halves("crown", ((r * others - 2, 1), (r, others)), ((2, r * others - 1),))
        self.check_halves(None, ((r * others - 3, 1), (r + 1, 1), (r, others - 1)), ((2, r * others - 1),))
        self.assertEqual(family(("halves", ((2, 1), (1, 4)), ((2, 3),))), ("bridge", "exchanged"))
        self.check_halves(None, ((5, 1), (3, 1), (2, 2)), ((2, 6),))
        self.check_halves(None, ((4, 1), (2, 4)), ((2, 6),))
        self.check_halves(None, ((6, 1), (3, 5)), ((3, 7),))
        for inner, outer in ((((4, 1), (3, 2)), ((2, 5),)), (((1, 4),), ((2, 2),)), (((5, 1), (2, 3)), ((2, 5),))):
            self.assertEqual(family(("halves", inner, outer)), by_hand_if_small(inner, outer))

    def test_halves_without_two_of_the_readings(self):
        self.assertIsNone(family(("halves", ((3, 2),), ((3, 2),))))
        self.assertEqual(family(("halves", ((9, 1), (1, 1)), ((1, 10),))), ("stars", "plain"))
        self.assertEqual(family(("halves", ((1, 10),), ((9, 1), (1, 1)))), ("stars", "exchanged"))
        self.assertIsNone(family(("halves", ((10 ** 31, 1),), ((10 ** 31, 1),))))


def by_hand_if_small(inner, outer):
    if max(many for _, many in inner + outer) > 100:
        return None
    return halves_family_by_hand(*[[degree for degree, many in kinds for _ in range(many)] for kinds in (inner, outer)])


class Plain(unittest.TestCase):
    def test_alone_and_tied(self):
        for m in (1, 2, 10 ** 30, 10 ** 31 + 1, 10 ** 60):
            for word in ("alone", "tied"):
                self.assertEqual(family((word, m)), (word, "plain"))

    def test_kinds_at_their_limits(self):
        ten = tuple((degree, 1) for degree in range(9, -1, -1))
        self.assertIsNone(family(("rest", ten)))
        self.assertIsNone(family(("halves", ten, ten)))
        self.assertIsNone(family(("rest", ((10 ** 31, MANY),))))


class OneWeb(unittest.TestCase):
    def test_rows_of_up_to_seven_places_against_all_webs(self):
        for places in range(1, 8):
            webs = webs_by_degrees(places)
            for degrees in lists_of_degrees(places, places):
                row = Row.listed(tuple(degrees))
                many = len(webs.get(tuple(degrees), []))
                self.assertIs(has_one_web(row), many == 1, degrees)
                if many > 0:
                    self.assertIs(faults(row) == (), many == 1, degrees)

    def test_how_many_rows_of_ten_places_have_one_web(self):
        """As many as are known to have."""
        for places, many in ((8, 407), (9, 956), (10, 2252)):
            rows = combinations_with_replacement(range(places - 1, -1, -1), places)
            self.assertEqual(sum(has_one_web(Row.listed(degrees)) for degrees in rows), many)

    def test_faults_are_the_pieces_of_no_family(self):
        for places in range(1, 9):
            for degrees in lists_of_degrees(places, places - 1):
                row = Row.listed(tuple(degrees))
                if can_be(row):
                    told = tuple(at for at, piece in enumerate(pieces(row)) if family(piece) is None)
                    self.assertEqual(faults(row), told)
                    self.assertIs(has_one_web(row), told == ())

    def test_several_faults(self):
        wide = ("halves", ((2, 4),), ((2, 4),))
        stars = ("halves", ((1, 2),), ((1, 2),))
        ring = ("rest", ((2, 5),))
        six = ("rest", ((2, 6),))
        for told, wrong in (
            ((wide, ring), (0,)), ((wide, six), (0, 1)), ((stars, six), (1,)), ((stars, ring), ()),
            ((wide, stars, six), (0, 2)), ((("alone", 3), wide, ("tied", 2), wide), (1, 3)), ((six,), (0,)),
        ):
            row = Row(put_together(told))
            self.assertEqual(pieces(row), told)
            self.assertEqual(faults(row), wrong)
            self.assertEqual(faults(row=row), wrong)
            self.assertIs(has_one_web(row=row), wrong == ())

    def test_great_rows(self):
        d = 10 ** 27
        for kinds, told in (
            (((d, 1), (1, 7 * d)), True), (((d, 1), (1, 7 * d + 1)), False), (((1, MANY),), True),
            (((2, MANY),), False),
            (((MANY - 2, MANY),), True), (((MANY - 1, MANY),), True), (((MANY - 3, MANY),), False),
            (((2 * d + 2, 1), (2, 2 * d + 3)), True), (((2 * d + 2, 1), (2, 2 * d + 4)), False),
            (((d, d), (1, d)), True), (((0, MANY),), True), (((10 ** 31, 1), (0, MANY)), False),
        ):
            self.assertIs(has_one_web(Row(kinds)), told)

    def test_drawn_pieces_with_great_numbers(self):
        """A row of pieces that are of families has one web; with one that is of none it has not."""
        chance = random.Random(4)
        families = [
            ("halves", ((10 ** 9, 10 ** 15),), ((1, 10 ** 24),)),
            ("halves", ((10 ** 9, 10 ** 15),), ((10 ** 14, 1), (1, 10 ** 24 - 10 ** 14))),
            ("halves", ((3 * 10 ** 20 - 2, 1), (10 ** 20, 3)), ((2, 3 * 10 ** 20 - 1),)),
            ("halves", ((10 ** 20 - 1, 10 ** 20),), ((10 ** 20 - 1, 10 ** 20),)),
        ]
        wide = ("halves", ((10 ** 9, 10 ** 15),), ((10 ** 5, 10 ** 19),))
        lasts = [("rest", ((1, 10 ** 22),)), ("rest", ((10 ** 21, 1), (1, 3 * 10 ** 21))), ("alone", 10 ** 25)]
        tried = 0
        for _ in range(300):
            told = [chance.choice(families) for _ in range(chance.randint(1, 2))] + [chance.choice(lasts)]
            if len(put_together(told)) <= 10:
                self.assertIs(has_one_web(Row(put_together(told))), True)
                self.assertEqual(faults(Row(put_together(told))), ())
            at = chance.randrange(len(told))
            told[at:at] = [wide]
            if len(put_together(told)) <= 10:
                tried += 1
                self.assertIs(has_one_web(Row(put_together(told))), False)
                self.assertEqual(faults(Row(put_together(told))), (at,))
        self.assertGreater(tried, 100)


class WrongValues(Errors, unittest.TestCase):
    def check_piece(self, value):
        self.check_error(InvalidPiece, {"given": value}, family, value)
        self.check_error(InvalidPiece, {"given": value}, family, piece=value)

    def test_values_of_any_kind(self):
        for value in strange() + strange_tuples() + [3, (), ["alone", 3], ["rest", ((2, 5),)], nest().kinds]:
            self.check_piece(value)
            self.check_piece((value, 3))
            self.check_piece((value, ((2, 5),)))
            self.check_piece((value, ((1, 2),), ((1, 2),)))
        for value in ("alone", "tied", "halves", "rest"):
            self.check_piece(value)

    def test_rests_of_no_kinds(self):
        for value in strange() + strange_tuples() + [3, (), [(2, 5)], ((2, 5, 1),), ((2, 0),), ((-1, 5),), ((True, 5),),
                     ((2, True),), ((2, 5), (2, 5)), ((2, 5), (3, 5)), ([2, 5],), ((10 ** 31 + 1, 1),),
                     ((2, MANY + 1),), tuple((degree, 1) for degree in range(10, -1, -1)), ((2, 5), None)]:
            self.check_piece(("rest", value))
            self.check_piece(("halves", value, ((1, 2),)))
            self.check_piece(("halves", ((1, 2),), value))
            self.check_piece(("halves", value, value))

    def test_numbers_from_one_on(self):
        for word in ("alone", "tied"):
            for value in strange() + strange_tuples() + [0, -1, -10 ** 30, "1", (1,), ()]:
                self.check_piece((word, value))

    def test_more_or_fewer_parts(self):
        two = ((1, 2),)
        for value in (
            ("alone",), ("tied",), ("rest",), ("halves",), ("alone", 1, 1), ("tied", 2, None), ("halves", two),
            ("halves", two, two, two), ("rest", two, two), ("rest", ((2, 5),), None), ("halves", (two, two)),
            (two, two), ("rest", 5), ("alone", two), ("tied", two), ("halves", 1, 2),
        ):
            self.check_piece(value)

    def test_words_that_are_bent(self):
        for word in ("", "Alone", "alone ", "ties", "half", "star", "ring", "rests", "halves\n", b"alone", ("alone",)):
            self.check_piece((word, 3))
            self.check_piece((word, ((2, 5),)))
            self.check_piece((word, ((1, 2),), ((1, 2),)))

    def test_sides_and_rows_are_no_pieces(self):
        self.check_piece(path())
        self.check_piece(("halves", path()))
        self.check_piece(("rest", Row(((2, 5),))))
        self.check_piece((Odd(), Odd()))

    def test_values_that_are_no_rows(self):
        for value in strange() + strange_tuples() + [3, (), nest().text, nest().kinds]:
            if isinstance(value, Row):
                continue
            for call in (has_one_web, faults):
                self.check_error(NotRow, {"given": value}, call, value)
                self.check_error(NotRow, {"given": value}, call, row=value)

    def test_rows_that_cannot_be(self):
        for row in (Row.listed((3, 3, 1, 1)), Row.listed((2, 1)), Row(((1, 1),)), Row(((MANY, MANY),))):
            self.assertIs(has_one_web(row), False)
            self.check_error(Cannot, {"given": row}, faults, row)
            self.check_error(Cannot, {"given": row}, faults, row=row)

    def test_nothing_is_changed_and_kinds_of_answers(self):
        row = nest()
        self.assertIs(has_one_web(row), True)
        self.assertIs(has_one_web(Row(((2, 6),))), False)
        self.assertEqual(faults(row), ())
        self.assertEqual(row, nest())
        for call in (family, has_one_web, faults):
            self.assertEqual(call.__module__, "degreerows.single")


if __name__ == "__main__":
    unittest.main()
