import random
import unittest
from itertools import combinations, combinations_with_replacement

from degreerows.certain import bond
from degreerows.errors import InvalidChanges, InvalidText, InvalidWish, InvalidWishes, NotRow
from degreerows.judging import can_be
from degreerows.mends import kept, mends
from degreerows.parting import pieces
from degreerows.rows import Row
from degreerows.single import has_one_web
from tests.helpers import Errors, Odd, Same, nest, strange, strange_tuples
from tests.webs import webs_by_degrees, words_of_pairs

MOST = 10 ** 31
MANY = 10 ** 30


def wrong_wishes():
    """Values that are no wishes, with a part bent, more or less."""
    found = strange() + strange_tuples() + [3, (), "can", ("can", "one"), (("can",),), ["can"], ["one"]]
    for word in ("can", "one", "pieces", "tied", "apart"):
        found += [(word, None), (word, 1, 1, 1), (word, 1, None), (word, [1], 1), [word], word]
        if word not in ("can", "one"):
            found += [(word,)]
        if word != "pieces":
            found += [(word, 1)]
        if word not in ("tied", "apart"):
            found += [(word, 1, 1)]
        for value in strange() + strange_tuples() + [(), (1,)]:
            found += [(word, value), (word, value, 1), (word, 1, value), (value, word)]
    found += [("pieces", -1), ("pieces", -MANY), ("pieces", True), ("pieces", False), ("pieces", "1")]
    found += [("open", 1, 1), ("cannot",), ("Can",), ("can ",), ("two",), ("piece", 1), ("", 1), ("can", ()), (b"can",)]
    for value in strange() + strange_tuples() + [3, ()]:
        found += [(value,), (value, 1), (value, 1, 1)]
    return found


def kept_by_hand(row, wish):
    """The words of the document, by the functions for rows."""
    word, *numbers = wish
    if word == "can" or not can_be(row):
        return can_be(row)
    if word == "one":
        return has_one_web(row)
    if word == "pieces":
        return len(pieces(row)) <= numbers[0]
    one, mate = numbers
    if row.count(one) < 1 + (one == mate) or row.count(mate) < 1:
        return False
    return bond(row, one, mate) == word


def changed_by_hand(row, changes):
    lines = row.text.split("\n")
    for old, new in changes:
        lines[row.text.split("\n").index(old)] = new
    return "\n".join([line for line in lines if line != ""])


def mends_by_hand(row, wishes, changes):
    """All sets of changes with unlike old lines, tried one by one; those that hold none of the others that mend."""
    found = []
    for many in range(len(changes) + 1):
        for chosen in combinations(range(len(changes)), many):
            parts = [changes[index] for index in chosen]
            if len({old for old, _ in parts}) < len(parts):
                continue
            try:
                changed = Row.read(changed_by_hand(row, parts))
            except InvalidText:
                continue
            if all(kept_by_hand(changed, wish) for wish in wishes):
                found.append(chosen)
    return tuple(told for told in found if not any(set(other) < set(told) for other in found))


class Kept(Errors, unittest.TestCase):
    def check_kept(self, told, row, wish):
        self.assertIs(kept(row, wish), told, (row.kinds, wish))
        self.assertIs(kept(wish=wish, row=row), told)

    def test_rows_of_up_to_five_places_against_all_webs(self):
        for places in range(1, 6):
            webs = webs_by_degrees(places)
            for degrees in combinations_with_replacement(range(places, -1, -1), places):
                row, own = Row.listed(degrees), webs.get(degrees, [])
                words = words_of_pairs(own)
                self.check_kept(len(own) > 0, row, ("can",))
                self.check_kept(len(own) == 1, row, ("one",))
                for number in range(places + 1):
                    self.check_kept(len(own) > 0 and len(pieces(row)) <= number, row, ("pieces", number))
                for one in range(-1, places + 2):
                    for mate in range(-1, places + 2):
                        word = words.get((max(one, mate), min(one, mate)))
                        for wished in ("tied", "apart"):
                            self.check_kept(word == wished, row, (wished, one, mate))

    def test_great_rows(self):
        seen = {}
        for kinds in (
            ((MANY, 1), (1, MANY)), ((MANY, MANY), (1, MANY)), ((2, MANY),), ((MOST, MANY), (0, MANY)),
            ((MANY - 2, MANY),), ((1, MANY - 1),), ((3 * MANY // 2, 5), (7, 2), (0, MANY)), ((0, MANY),),
        ):
            row = Row(kinds)
            degrees = [degree for degree, _ in kinds] + [0, 1, 5, -1, MOST, MOST + 1, 10 ** 90, -10 ** 90]
            wishes = [("can",), ("one",)] + [("pieces", number) for number in (0, 1, 2, 3, 10 ** 90)]
            wishes += [(word, one, mate) for word in ("tied", "apart") for one in degrees for mate in degrees]
            for wish in wishes:
                told = kept_by_hand(row, wish)
                self.check_kept(told, row, wish)
                seen[(wish[0], told)] = seen.get((wish[0], told), 0) + 1
        self.assertEqual(len(seen), 10)

    def test_pieces(self):
        row = Row(((6, 2), (4, 2), (3, 2), (1, 2), (0, 1)))
        self.assertEqual(len(pieces(row)), 3)
        for number, told in ((0, False), (1, False), (2, False), (3, True), (4, True), (10 ** 90, True)):
            self.check_kept(told, row, ("pieces", number))
        self.check_kept(False, Row(((0, 1),)), ("pieces", 0))
        self.check_kept(True, Row(((0, 1),)), ("pieces", 1))
        self.check_kept(False, Row(((3, 2), (1, 2))), ("pieces", 4))

    def test_degrees_that_the_row_has_not_or_once_or_zero(self):
        row = Row(((3, 1), (2, 2), (1, 1), (0, 1)))
        for wish, told in (
            (("tied", 3, 2), True), (("tied", 2, 3), True), (("tied", 3, 1), True), (("tied", 3, 3), False),
            (("tied", 2, 2), True), (("apart", 2, 2), False), (("apart", 1, 1), False), (("apart", 2, 1), True),
            (("apart", 0, 3), True), (("apart", 3, 0), True), (("apart", 0, 0), False), (("tied", 0, 3), False),
            (("tied", 4, 3), False), (("apart", 4, 3), False), (("apart", 3, 4), False), (("apart", -1, 3), False),
        ):
            self.check_kept(told, row, wish)
        self.check_kept(True, Row(((0, 2),)), ("apart", 0, 0))
        self.check_kept(False, Row(((1, 4),)), ("tied", 1, 1))
        self.check_kept(False, Row(((1, 4),)), ("apart", 1, 1))
        self.check_kept(False, Row(((2, 1), (1, 1), (0, 2))), ("apart", 0, 0))

    def test_wrong_values(self):
        for value in strange() + strange_tuples() + [3, (), nest().text, nest().kinds]:
            if isinstance(value, Row):
                continue
            self.check_error(NotRow, {"given": value}, kept, value, ("can",))
            self.check_error(NotRow, {"given": value}, kept, wish=None, row=value)
        for row in (nest(), Row(((3, 2), (1, 2)))):
            for value in wrong_wishes():
                self.check_error(InvalidWish, {"given": value}, kept, row, value)
                self.check_error(InvalidWish, {"given": value}, kept, wish=value, row=row)


class Mends(Errors, unittest.TestCase):
    def check_mends(self, told, row, wishes, changes):
        self.assertEqual(mends(row, wishes, changes), told)
        self.assertEqual(mends(changes=changes, wishes=wishes, row=row), told)
        self.assertEqual(mends_by_hand(row, wishes, changes), told)

    def test_drawn_changes_against_all_sets(self):
        chance = random.Random(41)
        seen = {}
        for _ in range(4000):
            degrees = sorted(chance.sample(range(6), chance.randint(2, 4)), reverse=True)
            row = Row(tuple((degree, chance.randint(1, 4)) for degree in degrees))
            lines = row.text.split("\n")[1:]
            many = chance.choice([0, 4, 5, 6])
            changes = tuple(self.some_change(chance, chance.choice(lines), lines) for _ in range(many))
            one, mate = [chance.choice(degrees + [0, 1, 2]) for _ in range(2)]
            wishes = chance.choice([
                (), (("can",),), (("can",), ("pieces", 1)), (("one",),), (("one",), ("pieces", 2)),
                (("tied", one, mate),), (("apart", one, mate), ("can",)), (("pieces", 2), ("apart", mate, mate)),
            ])
            told = mends(row, wishes, changes)
            self.assertEqual(told, mends_by_hand(row, wishes, changes), (row.kinds, wishes, changes))
            sizes = tuple(sorted({len(chosen) for chosen in told}))
            seen[sizes] = seen.get(sizes, 0) + 1
        for sizes in ((), (0,), (1,), (2,), (1, 2)):
            self.assertGreater(seen[sizes], 10, sizes)
        self.assertGreater(sum(many for sizes, many in seen.items() if 3 in sizes), 5)

    def some_change(self, chance, old, lines):
        degree, many = [int(word) for word in old.split(" x ")]
        return (old, chance.choice([
            "", f"{degree} x {many + 1}", f"{degree} x {many + 1}", f"{degree} x {many + 3}",
            f"{degree} x {max(many - 1, 1)}", f"{degree + 1} x {many}", f"{max(degree - 1, 0)} x {many}",
            f"{chance.randint(0, 6)} x 1", "x", old, chance.choice(lines),
        ]))

    def test_no_changes_and_no_wishes(self):
        row = Row(((2, 6),))
        self.check_mends(((),), row, (("can",),), ())
        self.check_mends((), row, (("one",),), ())
        self.check_mends(((),), row, (), ())
        self.check_mends(((),), row, (), (("2 x 6", "2 x 5"), ("2 x 6", "x")))
        self.check_mends(((),), Row(((3, 2), (1, 2))), (), ())
        self.check_mends((), Row(((3, 2), (1, 2))), (("can",),), ())

    def test_a_row_that_keeps_all_wishes_as_it_is(self):
        changes = (("2 x 5", "2 x 6"), ("2 x 5", "2 x 4"))
        self.check_mends(((),), Row(((2, 5),)), (("one",), ("can",), ("pieces", 1)), changes)

    def test_one_line_twice_and_equal_changes(self):
        row = Row(((2, 6),))
        self.check_mends(((0,), (2,)), row, (("one",),), (("2 x 6", "2 x 5"), ("2 x 6", "2 x 7"), ("2 x 6", "2 x 4")))
        self.check_mends(
            ((0,), (1,), (3,)), row, (("one",),),
            (("2 x 6", "2 x 5"), ("2 x 6", "2 x 5"), ("2 x 6", "2 x 6"), ("2 x 6", "2 x 5")),
        )
        self.check_mends(((0,), (1,)), row, (("one",),), (("2 x 6", "2 x 5"),) * 2)

    def test_changes_that_mend_only_together(self):
        row = Row(((3, 1), (1, 1)))
        changes = (("1 x 1", "1 x 3"), ("3 x 1", "2 x 1"), ("1 x 1", "1 x 2"))
        self.check_mends(((0,), (1, 2)), row, (("one",),), changes)
        row = Row(((5, 1), (4, 1), (3, 1)))
        changes = (("5 x 1", "2 x 1"), ("4 x 1", "1 x 2"), ("3 x 1", ""))
        self.check_mends(((0, 1, 2),), row, (("one",),), changes)

    def test_changes_that_undo_one_another(self):
        row = Row(((3, 1), (2, 1), (1, 2)))
        both = (("3 x 1", ""), ("1 x 2", "1 x 3"))
        self.assertEqual([kept(row.changed(both[:1]), ("can",)), kept(row.changed(both[1:]), ("can",))], [True, True])
        self.assertIs(kept(row.changed(both), ("can",)), False)
        self.check_mends(((0,), (1,)), row, (("can",),), both)
        # The third change by itself does nothing, behind one of the others it does no harm, and behind both no good.
        self.check_mends(((0,), (1,)), row, (("can",),), (*both, ("2 x 1", "2 x 2")))

    def test_sets_that_hold_one_that_mends(self):
        row = Row(((2, 2), (1, 1)))
        changes = (("2 x 2", "2 x 1"), ("1 x 1", "1 x 2"), ("1 x 1", "1 x 3"))
        self.assertIs(kept(row.changed(changes[:2]), ("can",)), True)
        self.check_mends(((1,),), row, (("can",),), changes)

    def test_all_lines_taken_out(self):
        row = Row(((1, 1),))
        self.check_mends(((1,),), row, (("can",),), (("1 x 1", ""), ("1 x 1", "0 x 1")))
        self.check_mends((), row, (("can",),), (("1 x 1", ""),))

    def test_six_changes_and_the_order_of_sets(self):
        row = Row(((3, 1), (2, 1), (1, 1)))
        changes = (
            ("1 x 1", "1 x 2"), ("2 x 1", "2 x 2"), ("3 x 1", ""), ("3 x 1", "2 x 1"), ("2 x 1", ""),
            ("1 x 1", "1 x 3"),
        )
        told = mends(row, (("one",),), changes)
        self.check_mends(told, row, (("one",),), changes)
        self.assertEqual(list(told), sorted(told, key=lambda chosen: (len(chosen), chosen)))
        self.assertGreater(len({len(chosen) for chosen in told}), 1)
        self.assertEqual({type(chosen) for chosen in told}, {tuple})
        self.assertIs(type(told), tuple)

    def test_great_rows(self):
        row = Row(((MANY, 1), (1, MANY - 1)))
        old = f"1 x {MANY - 1}"
        changes = (
            (old, f"1 x {MANY}"), (f"{MANY} x 1", f"{MANY - 2} x 1"), (old, f"1 x {MANY + 1}"), (f"{MANY} x 1", ""),
            (f"{MANY} x 1", f"{MANY - 1} x 1"),
        )
        self.check_mends(((0,), (4,)), row, (("can",),), changes)
        self.check_mends(((0,), (4,)), row, (("one",), ("pieces", 2), ("apart", 1, 1)), changes)


class WrongMends(Errors, unittest.TestCase):
    def check_wrong(self, error, told, row, wishes, changes):
        self.check_error(error, told, mends, row, wishes, changes)
        self.check_error(error, told, mends, changes=changes, wishes=wishes, row=row)

    def test_values_that_are_no_rows(self):
        for value in strange() + strange_tuples() + [3, (), nest().text, nest().kinds]:
            if isinstance(value, Row):
                continue
            self.check_wrong(NotRow, {"given": value}, value, (), ())
            self.check_wrong(NotRow, {"given": value}, value, None, None)

    def test_wishes_that_are_no_tuples(self):
        for value in strange() + [3, "can", [("can",)]]:
            self.check_wrong(InvalidWishes, {"index": None}, nest(), value, ())
            self.check_wrong(InvalidWishes, {"index": None}, nest(), value, None)

    def test_wishes_that_are_none(self):
        for value in wrong_wishes():
            self.check_wrong(InvalidWishes, {"index": 0}, nest(), (value,), ())
            self.check_wrong(InvalidWishes, {"index": 2}, nest(), (("can",), ("tied", -5, 7), value, None), None)
        self.check_wrong(InvalidWishes, {"index": 0}, nest(), ("can",), ())
        self.check_wrong(InvalidWishes, {"index": 0}, nest(), ("tied", 7, 4), ())
        self.check_wrong(InvalidWishes, {"index": 12}, nest(), (("one",),) * 12 + (Odd(), Same()), ())

    def test_changes_that_are_no_tuples(self):
        for value in strange() + [3, [("1 x 2", "")]]:
            self.check_wrong(InvalidChanges, {"index": None}, nest(), (), value)
            self.check_wrong(InvalidChanges, {"index": None}, nest(), (("one",),), value)

    def test_changes_that_are_none(self):
        right = ("1 x 2", "")
        for value in strange() + strange_tuples() + [
            3, (), ("1 x 2",), ("1 x 2", "", ""), ["1 x 2", ""], "ab", ("1 x 3", ""), ("row", "row"), ("", ""),
            ("1 x 2 ", ""), ("01 x 2", ""), ("7 x 2\n4 x 5", ""), ("1 x 2", "1 x 3\n"), ("1 x 2", "\n"),
            ("1 x 2", "2 x 1\n1 x 1"), ("1 x 2", None), (None, "1 x 2"), ("1 x 2", 3), (b"1 x 2", ""), (Odd(), ""),
            ("1 x 2", Same()), (Same(), "1 x 2"),
        ]:
            self.check_wrong(InvalidChanges, {"index": 0}, nest(), (), (value,))
            self.check_wrong(InvalidChanges, {"index": 2}, nest(), (), (right, right, value, value))
            self.check_wrong(InvalidChanges, {"index": 5}, nest(), (), (right,) * 5 + (value, right, right))

    def test_more_than_six(self):
        right = ("1 x 2", "")
        for value in strange() + [right, (), 3]:
            self.check_wrong(InvalidChanges, {"index": 6}, nest(), (), (right,) * 6 + (value,))
            self.check_wrong(InvalidChanges, {"index": 6}, nest(), (("one",),), (right,) * 6 + (value, value))
        self.assertEqual(mends(nest(), (), (right,) * 6), ((),))

    def test_the_first_error(self):
        self.check_wrong(InvalidWishes, {"index": 1}, nest(), (("can",), ("can", 1)), (None,))
        self.check_wrong(InvalidWishes, {"index": None}, nest(), ["can"], [None])
        self.check_wrong(InvalidChanges, {"index": 0}, nest(), (("can",),), (None, ("7 x 2", "")))

    def test_nothing_is_changed_and_equal_answers(self):
        row = Row(((2, 6),))
        wishes, changes = (("one",),), (("2 x 6", "2 x 5"),)
        told = mends(row, wishes, changes)
        self.assertEqual(mends(row, (("can",), ("pieces", 1)), changes), ((),))
        self.assertEqual(mends(row, wishes, changes), told)
        self.assertEqual((row.kinds, wishes, changes), (((2, 6),), (("one",),), (("2 x 6", "2 x 5"),)))
        for call in (kept, mends):
            self.assertEqual(call.__module__, "degreerows.mends")


if __name__ == "__main__":
    unittest.main()
