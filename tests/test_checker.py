import random
import unittest
from itertools import combinations, combinations_with_replacement

from degreerows.certificates import certify_bond, certify_can, certify_one, certify_two
from degreerows.checker import accepts
from degreerows.judging import can_be
from degreerows.parting import pieces
from degreerows.rows import Row
from degreerows.single import has_one_web
from degreerows.webs import web
from tests.helpers import NEST_TEXT, Odd, Same, nest, path, strange, strange_tuples
from tests.test_judging import room_by_hand
from tests.test_single import halves_family_by_hand, rest_family_by_hand
from tests.webs import are_matched, degrees_of, put_together, webs_by_degrees, words_of_pairs

MOST = 10 ** 31
MANY = 10 ** 30
WORDS = ("can", "cannot", "one", "two", "tied", "apart", "open")


def small_rows(most):
    for places in range(1, most + 1):
        for degrees in combinations_with_replacement(range(places, -1, -1), places):
            yield degrees, Row.listed(degrees)


def listed(kinds):
    return [degree for degree, many in kinds for _ in range(many)]


def is_of_a_family(piece):
    """By the words of point 10, place by place."""
    if piece[0] == "halves":
        return halves_family_by_hand(listed(piece[1]), listed(piece[2])) is not None
    return piece[0] != "rest" or rest_family_by_hand(listed(piece[1])) is not None


def gives_by_hand(told, kinds):
    """Whether the pieces, one behind another, make the row and tell that it has one web."""
    if any(piece[0] == "rest" for piece in told[:-1]) or not all(is_of_a_family(piece) for piece in told):
        return False
    return put_together(told) == kinds


def bars_by_hand(degrees, k):
    ordered = sorted(degrees, reverse=True)
    return 1 <= k <= len(ordered) and room_by_hand(ordered, k) < 0


def led(degrees, one, mate, by):
    left = list(degrees)
    left.remove(one)
    left.remove(mate)
    return left + [one + by, mate + by]


class Check(unittest.TestCase):
    def check(self, told, claim, certificate):
        self.assertIs(accepts(claim, certificate), told, (claim, certificate))
        self.assertIs(accepts(certificate=certificate, claim=claim), told)


class CanAndCannot(Check):
    def test_small_rows_with_all_numbers(self):
        seen = {True: 0, False: 0}
        for degrees, row in small_rows(5):
            can = degrees in webs_by_degrees(len(degrees))
            self.check(can, ("can", row.text), ())
            for k in range(-1, len(degrees) + 3):
                told = sum(degrees) % 2 == 1 if k == 0 else bars_by_hand(degrees, k)
                self.check(told, ("cannot", row.text), k)
                self.check(False, ("can", row.text), k)
                self.assertFalse(told and can)
                seen[told] += 1
            self.check(False, ("cannot", row.text), ())
        self.assertGreater(min(seen.values()), 500)

    def test_great_rows(self):
        text = Row(((MANY // 2 + 1, 2), (1, MANY))).text
        self.check(True, ("can", text), ())
        self.check(False, ("cannot", text), 2)
        text = Row(((MANY + 1, 2), (1, MANY - 1))).text
        self.check(True, ("cannot", text), 0)
        text = Row(((MANY + 1, 2), (1, MANY))).text
        self.check(False, ("can", text), ())
        for k, told in ((0, False), (1, False), (2, True), (3, True), (MANY + 2, False), (10 ** 90, False)):
            self.check(told, ("cannot", text), k)
        text = Row(((MOST, MANY), (0, 4))).text
        for k, told in ((0, False), (1, True), (MANY, True), (MANY + 4, True), (MANY + 5, False), (-1, False)):
            self.check(told, ("cannot", text), k)

    def test_numbers_that_are_true_or_false(self):
        odd, great = Row(((1, 1),)).text, Row(((2, 2),)).text
        self.check(True, ("cannot", odd), 0)
        self.check(False, ("cannot", odd), False)
        self.check(True, ("cannot", great), 1)
        self.check(False, ("cannot", great), True)


class One(Check):
    def test_pieces_of_rows_of_up_to_six_places(self):
        for degrees, row in small_rows(6):
            many = len(webs_by_degrees(len(degrees)).get(degrees, []))
            if many > 0:
                self.check(many == 1, ("one", row.text), pieces(row))
            self.check(False, ("one", row.text), ())

    def some_piece(self, chance, is_last):
        word = chance.choice(["alone", "tied", "halves", "halves"] + ["rest"] * (2 if is_last else 0))
        if chance.random() < 0.02:
            word = "rest"
        if word in ("alone", "tied"):
            return (word, chance.choice([1, 1, 2, 3]))
        if word == "rest":
            return ("rest", chance.choice([
                ((2, 5),), ((1, 4),), ((2, 4),), ((2, 1), (1, 4)), ((4, 1), (2, 5)), ((2, 6),), ((3, 6),), ((1, 2),),
                ((3, 4), (2, 1)), ((2, 3),), ((3, 1), (1, 5)), ((0, 1),),
            ]))
        return ("halves", *chance.choice([
            (((1, 2),), ((1, 2),)), (((2, 2),), ((1, 4),)), (((1, 2),), ((2, 1),)), (((1, 1),), ((1, 1),)),
            (((2, 3),), ((2, 1), (1, 4))), (((2, 3),), ((2, 3),)), (((2, 4),), ((2, 4),)), (((1, 4),), ((2, 2),)),
            (((2, 1), (1, 1)), ((1, 3),)), (((1, 2), (0, 1)), ((1, 2),)), (((4, 1), (2, 3)), ((2, 5),)),
            (((2, 2),), ((1, 3),)), (((2, 1), (1, 4)), ((2, 3),)),
        ]))

    def test_drawn_pieces_one_behind_another(self):
        """Longer, shorter and in other orders than in point 9."""
        chance = random.Random(81)
        seen = {True: 0, False: 0}
        for _ in range(6000):
            many = chance.randint(1, 4)
            told = tuple(self.some_piece(chance, at == many - 1) for at in range(many))
            kinds = put_together(told)
            if len(kinds) > 10:
                continue
            row = Row(kinds)
            right = gives_by_hand(told, kinds)
            seen[right] += 1
            self.check(right, ("one", row.text), told)
            self.check(gives_by_hand(told[::-1], kinds), ("one", row.text), told[::-1])
            if right:
                self.assertIs(has_one_web(row), True)
                self.check(True, ("one", row.text), pieces(row))
                self.check(False, ("one", Row(kinds[:-1] + ((kinds[-1][0], kinds[-1][1] + 1),)).text), told)
            if right and row.places <= 7:
                self.assertEqual(len(webs_by_degrees(row.places)[tuple(listed(kinds))]), 1)
        self.assertGreater(min(seen.values()), 1000)

    def test_one_row_and_many_certificates(self):
        text = Row(((1, 2),)).text
        for told, right in (
            ((("tied", 2),), True), ((("tied", 1), ("tied", 1)), True), ((("tied", 1), ("alone", 1)), True),
            ((("alone", 1), ("tied", 1)), False), ((("tied", 3),), False), ((("rest", ((1, 2),)),), False),
            ((("halves", ((1, 1),), ((1, 1),)),), False), ((("tied", 2), ()), False), ((), False),
            ((("tied", 0), ("tied", 2)), False), ((("tied", 2), ("alone", 0)), False),
        ):
            self.check(right, ("one", text), told)
        text = Row(((4, 2), (2, 3))).text
        for told, right in (
            ((("tied", 2), ("alone", 3)), True), ((("tied", 1), ("tied", 1), ("alone", 1), ("alone", 2)), True),
            ((("tied", 1), ("tied", 1), ("alone", 2), ("alone", 1)), True), ((("alone", 3), ("tied", 2)), False),
            ((("tied", 2), ("alone", 2), ("tied", 1)), True), ((("tied", 1), ("alone", 3), ("tied", 1)), False),
        ):
            self.check(right, ("one", text), told)

    def test_a_rest_elsewhere_than_last(self):
        ring, alone, tied = ("rest", ((2, 5),)), ("alone", 1), ("tied", 1)
        text = Row(((2, 5), (0, 1))).text
        self.check(True, ("one", text), (alone, ring))
        self.check(False, ("one", text), (ring, alone))
        self.check(False, ("one", Row(((7, 5), (2, 5))).text), (ring, ring))
        self.check(False, ("one", Row(((2, 10),)).text), (ring, ring))
        self.check(True, ("one", Row(((5, 1), (3, 5))).text), (tied, ring))
        self.check(False, ("one", Row(((5, 1), (3, 5))).text), (ring, tied))

    def test_great_pieces(self):
        d = 10 ** 27
        for told in (
            (("alone", d), ("tied", 3 * d), ("halves", ((d, 2),), ((1, 2 * d),)), ("rest", ((1, 2 * d),))),
            (("tied", d), ("tied", d), ("rest", ((2 * d, 1), (1, 4 * d)))),
            (("halves", ((5, d),), ((d - 1, 1), (1, 4 * d + 1))), ("alone", MANY)),
            (("halves", ((3 * d - 2, 1), (d, 3)), ((2, 3 * d - 1),)), ("tied", 1)),
            (("rest", ((2 * d + 2, 1), (2, 2 * d + 3))),),
        ):
            row = Row(put_together(told))
            self.check(True, ("one", row.text), told)
            self.check(True, ("one", row.text), pieces(row))
            self.check(False, ("one", row.text), told[1:])
            self.check(False, ("one", row.text), told + (("alone", 1),))
            self.check(False, ("one", row.text), (("alone", 1),) + told)
        wide = ("halves", ((10 ** 9, 10 ** 15),), ((10 ** 5, 10 ** 19),))
        self.check(False, ("one", Row(put_together((wide,))).text), (wide,))
        # No kinds: a count is above the limit.
        stars = ("halves", ((10, MANY),), ((1, 10 * MANY),))
        self.check(False, ("one", Row(((MANY + 9, MANY), (1, MANY))).text), (stars,))
        self.check(True, ("one", Row(((0, MANY),)).text), (("alone", 1), ("alone", MANY - 1)))
        self.check(False, ("one", Row(((0, MANY),)).text), (("alone", 10 ** 90),))

    def test_pieces_of_no_family(self):
        for told in (
            (("rest", ((2, 6),)),), (("halves", ((2, 4),), ((2, 4),)),), (("alone", 2), ("rest", ((2, 6),))),
            (("halves", ((1, 1),), ((1, 1),)), ("alone", 1)),
        ):
            self.check(False, ("one", Row(put_together(told)).text), told)


class Two(Check):
    def test_all_pairs_of_webs_of_up_to_four_places(self):
        for n in range(1, 5):
            pairs = tuple(combinations(range(n), 2))
            webs = {}
            for chosen in range(2 ** len(pairs)):
                ties = tuple(tie for at, tie in enumerate(pairs) if chosen >> at & 1)
                masks = tuple(sum(1 << (a + b - p) for a, b in ties if p in (a, b)) for p in range(n))
                webs[ties] = masks
            for ties, masks in webs.items():
                text = Row.listed(degrees_of(masks)).text
                for others, other_masks in webs.items():
                    told = degrees_of(masks) == degrees_of(other_masks) and not are_matched(masks, other_masks)
                    self.assertIs(accepts(("two", text), ((n, ties), (n, others))), told)

    def test_two_rings_and_one(self):
        text = Row(((2, 6),)).text
        one = (6, ((0, 1), (0, 5), (1, 2), (2, 3), (3, 4), (4, 5)))
        two = (6, ((0, 1), (0, 2), (1, 2), (3, 4), (3, 5), (4, 5)))
        again = (6, ((0, 2), (0, 4), (1, 3), (1, 5), (2, 5), (3, 4)))
        odd = (6, ((0, 1), (0, 2), (0, 3), (1, 2), (3, 4), (4, 5)))
        for pair, told in (
            ((one, two), True), ((two, one), True), ((one, one), False), ((one, again), False), ((again, two), True),
            ((one, odd), False), ((odd, two), False), ((odd, odd), False), ((one,), False), ((one, two, two), False),
            ([one, two], False), ((one, list(two)), False), ((one[1], two[1]), False), ((), False), (one, False),
        ):
            self.check(told, ("two", text), pair)
        for other in (Row(((2, 7),)), Row(((2, 6), (0, 1))), Row(((3, 6),)), Row(((2, 3),)), Row(((2, 12),))):
            self.check(False, ("two", other.text), (one, two))
        self.check(False, ("two", text), ((6, one[1]), (7, two[1])))
        self.check(False, ("two", text), ((6, one[1][::-1]), two))
        self.check(False, ("two", text), ((6, list(one[1])), two))
        self.check(False, ("two", text), ((6, one[1] + ((5, 0),)), two))

    def test_ten_and_eleven_places(self):
        for n, told in ((10, True), (11, False)):
            ring = tuple(sorted((0, n - 1) if at == n - 1 else (at, at + 1) for at in range(n)))
            three = ((0, 1), (0, 2), (1, 2))
            rest = tuple(sorted((3, n - 1) if at == n - 1 else (at, at + 1) for at in range(3, n)))
            self.check(told, ("two", Row(((2, n),)).text), ((n, ring), (n, three + rest)))
        self.check(False, ("two", Row(((2, MANY),)).text), ((MANY, ()), (MANY, ((0, 1),))))


class Places(Check):
    def test_small_rows_with_all_numbers(self):
        """What is accepted is what all webs tell, and for each pair something is."""
        seen = {}
        for degrees, row in small_rows(5):
            n = len(degrees)
            words = words_of_pairs(webs_by_degrees(n).get(degrees, []))
            for one in range(-1, n + 2):
                for mate in range(-1, n + 2):
                    word = words.get((max(one, mate), min(one, mate)))
                    self.check(word == "open", ("open", row.text, one, mate), ())
                    self.check(False, ("open", row.text, one, mate), 1)
                    found = {"tied": [], "apart": []}
                    for k in range(-1, n + 3):
                        for wished, by in (("tied", 1), ("apart", -1)):
                            told = word is not None and self.bars(wished, degrees, one, mate, by, k)
                            self.check(told, (wished, row.text, one, mate), k)
                            if told:
                                found[wished].append(k)
                    for wished in found:
                        self.assertEqual(word == wished, len(found[wished]) > 0)
                    seen[word] = seen.get(word, 0) + 1
        self.assertGreater(min(seen.values()), 40)

    def bars(self, word, degrees, one, mate, by, k):
        if word == "apart" and min(one, mate) == 0:
            return k == 0
        return bars_by_hand(led(degrees, one, mate, by), k)

    def test_numbers_that_are_true_or_false(self):
        text = Row(((1, 2), (0, 1))).text
        self.check(True, ("apart", text, 1, 0), 0)
        self.check(True, ("apart", text, 0, 1), 0)
        self.check(False, ("apart", text, 1, 0), False)
        self.check(False, ("apart", text, True, 0), 0)
        self.check(False, ("apart", text, 1, False), 0)
        self.check(True, ("tied", text, 1, 1), 1)
        self.check(False, ("tied", text, 1, 1), True)
        self.check(False, ("tied", text, True, 1), 1)

    def test_rows_beyond_the_limits(self):
        """The row with a tie more or less would have too many kinds, or too great counts or degrees."""
        stairs = Row(tuple((degree, 1 if degree != 5 else 2) for degree in range(9, -1, -1)))
        self.assertTrue(can_be(Row(stairs.kinds[:-1])))
        stairs = Row(stairs.kinds[:-1])
        for one, mate, word in ((9, 8, "tied"), (9, 1, "tied"), (5, 5, "tied"), (4, 3, "apart"), (2, 1, "apart")):
            claim, k = certify_bond(stairs, one, mate)
            self.assertEqual(claim[0], word)
            self.check(True, claim, k)
            self.check(False, claim, 0)
            self.check(False, claim, 11)
        ten = Row(tuple((10 * degree, 100) for degree in range(10, 0, -1)))
        self.check(True, ("open", ten.text, 100, 50), ())
        full = Row(((2 * MANY - 1, MANY), (MANY, MANY)))
        self.check(True, ("tied", full.text, 2 * MANY - 1, MANY), 1)
        self.check(True, ("tied", full.text, 2 * MANY - 1, 2 * MANY - 1), 1)
        self.check(True, ("apart", full.text, MANY, MANY), certify_bond(full, MANY, MANY)[1])
        self.check(False, ("apart", full.text, MANY, MANY), 2 * MANY + 1)
        most = Row(tuple((10 * MANY - degree, MANY) for degree in range(1, 11)))
        self.check(True, ("tied", most.text, 10 * MANY - 1, 10 * MANY - 1), 1)

    def test_rows_that_cannot_be_and_degrees_that_are_none(self):
        bad = Row(((3, 2), (1, 2)))
        for word in ("tied", "apart", "open"):
            for certificate in ((), 0, 1, 2, 3, 4):
                self.check(False, (word, bad.text, 3, 1), certificate)
                self.check(False, (word, bad.text, 3, 3), certificate)
                self.check(False, (word, NEST_TEXT, 3, 1), certificate)
                self.check(False, (word, NEST_TEXT, 7, 10 ** 90), certificate)
                self.check(False, (word, Row(((2, 1), (1, 2))).text, 2, 2), certificate)
                self.check(False, (word, Row(((1, 2), (0, 1))).text, 0, 0), certificate)


class AnyValue(Check):
    def right_pairs(self):
        zero = Row(((1, 2), (0, 3)))
        return [
            certify_can(nest()), certify_can(Row(((3, 2), (1, 2)))), certify_can(Row(((1, 1),))), certify_one(nest()),
            certify_one(Row(((4, 2), (2, 3)))), certify_two(Row(((2, 6),))), certify_bond(nest(), 7, 4),
            certify_bond(nest(), 1, 7), certify_bond(nest(), 1, 4), certify_bond(zero, 1, 0),
            (("one", zero.text), (("alone", 1), ("alone", 2), ("tied", 1), ("alone", 1))),
        ]

    def test_values_of_any_kind(self):
        for value in strange() + strange_tuples():
            self.check(False, value, ())
            self.check(False, value, value)
            for claim, _ in self.right_pairs():
                self.check(False, claim, value)
            for word in WORDS:
                for claim in (
                    (word, value), (word, NEST_TEXT, value), (word, NEST_TEXT, value, value), (value, NEST_TEXT),
                    (word, NEST_TEXT, 7, value), (word, NEST_TEXT, value, 7),
                ):
                    for certificate in ((), 0, 1):
                        self.check(False, claim, certificate)
        for value in ((), 3, 0, NEST_TEXT, nest().kinds, ("can",), ("one", NEST_TEXT), WORDS):
            self.check(False, value, value)
            for certificate in (0, 1, None, ((),)):
                self.check(False, value, certificate)

    def test_claims_and_certificates_with_a_part_bent(self):
        for claim, certificate in self.right_pairs():
            self.check(True, claim, certificate)
            for bent in self.bent(claim):
                self.check(False, bent, certificate)
            for bent in self.bent(certificate):
                self.check(False, claim, bent)

    def bent(self, value):
        """The value with a part, at any depth, that is of another kind, taken out, or put in twice."""
        yield from strange()
        yield from strange_tuples()
        if isinstance(value, int):
            yield from (str(value), (value,), [value], -1 - value, bool(value), 10 ** 90, -10 ** 90)
        if isinstance(value, str):
            yield from (value + "\n", " " + value, value + " ", value[:-1], value.upper(), value.encode(), (value,))
        if isinstance(value, tuple):
            yield from (list(value), (value,), (*value, None), (None, *value), dict(enumerate(value)))
            if len(value) > 0:
                yield from (value[:-1], value[1:], value + value[-1:])
            for at, part in enumerate(value):
                for bent in self.bent(part):
                    yield value[:at] + (bent,) + value[at + 1:]

    def test_texts_that_are_none(self):
        for text in (
            "", "row", "row\n", "row\n7 x 2\n", "row\n7 x 2\n\n1 x 2", "Row\n7 x 2", "7 x 2\n4 x 5\n1 x 2",
            "row\n07 x 2\n4 x 5\n1 x 2", "row\n4 x 5\n7 x 2\n1 x 2", "row\n7  x 2\n4 x 5\n1 x 2", NEST_TEXT + "\n",
            NEST_TEXT.replace("\n", " "), "row\n7 x 2\n4 x 5\n1 x 2 ", "row\n0 x 0", "row\n-1 x 2", NEST_TEXT.encode(),
            f"row\n0 x {MANY + 1}", nest(), nest().kinds, [NEST_TEXT], path(), Odd(), Same(),
        ):
            for word in WORDS:
                for certificate in ((), 0, 1, pieces(nest()), (("alone", 1),)):
                    self.check(False, (word, text), certificate)
                    self.check(False, (word, text, 7, 4), certificate)

    def test_more_or_fewer_parts(self):
        for word in WORDS:
            for certificate in ((), 0, 1, 2, pieces(nest())):
                self.check(False, (word,), certificate)
                self.check(False, (word, NEST_TEXT, 7), certificate)
                self.check(False, (word, NEST_TEXT, 7, 4, 1), certificate)
                self.check(False, (word, NEST_TEXT, ()), certificate)
                if word in ("can", "cannot", "one", "two"):
                    self.check(False, (word, NEST_TEXT, 7, 4), certificate)
                else:
                    self.check(False, (word, NEST_TEXT), certificate)

    def test_other_words(self):
        text = NEST_TEXT
        for word in ("", "Can", "can ", "is", "several", "tie", "opened", "can\n", b"can", ("can",), None, Odd()):
            for certificate in ((), 0, 1, pieces(nest())):
                self.check(False, (word, text), certificate)
                self.check(False, (word, text, 7, 4), certificate)

    def test_webs_that_are_none(self):
        text = Row(((2, 6),)).text
        (_, one), (_, two) = certify_two(Row(((2, 6),)))[1]
        self.check(True, ("two", text), ((6, one), (6, two)))
        for n in (True, None, "6", 0, -6, 7, 5, 11, (6,), 10 ** 90):
            self.check(False, ("two", text), ((n, one), (n, two)))
            self.check(False, ("two", text), ((6, one), (n, two)))
            self.check(False, ("two", text), ((n, one), (6, two)))
        self.check(False, ("two", Row(((0, 11),)).text), ((11, ()), (11, ())))
        self.check(False, ("two", Row(((0, 1),)).text), (web(Row(((0, 1),))),) * 2)

    def test_nothing_is_changed(self):
        certificate = [["alone", 1], ["tied", 2]]
        claim = ["one", NEST_TEXT]
        self.check(False, claim, certificate)
        self.assertEqual((claim, certificate), (["one", NEST_TEXT], [["alone", 1], ["tied", 2]]))
        for pair in self.right_pairs():
            self.assertEqual([accepts(*pair), accepts(*pair)], [True, True])
        self.assertEqual(accepts.__module__, "degreerows.checker")


if __name__ == "__main__":
    unittest.main()
