import unittest

from degreerows.errors import Cannot, InvalidChanges, InvalidDegree, InvalidNumber, InvalidText, TooGreat, TooMany
from degreerows.rows import Row
from tests.helpers import Errors, nest, strange, strange_tuples

MOST = 10 ** 31
MANY = 10 ** 30


def raised_by_hand(row, one, mate, by):
    """The row, listed place by place."""
    degrees = [degree for degree, many in row.kinds for _ in range(many)]
    degrees.remove(one)
    degrees.remove(mate)
    return Row.listed(tuple(degrees + [one + by, mate + by]))


class Raised(Errors, unittest.TestCase):
    def check_raised(self, error, given, row, one, mate, by):
        before = row.text
        self.check_error(error, {"given": given}, row.raised, one, mate, by)
        self.check_error(error, {"given": given}, row.raised, by=by, mate=mate, one=one)
        self.assertEqual(row.text, before)

    def test_two_degrees_up_and_down(self):
        self.assertEqual(nest().raised(7, 1, 1).kinds, ((8, 1), (7, 1), (4, 5), (2, 1), (1, 1)))
        self.assertEqual(nest().raised(one=1, mate=7, by=1).kinds, ((8, 1), (7, 1), (4, 5), (2, 1), (1, 1)))
        self.assertEqual(nest().raised(7, 4, -1).kinds, ((7, 1), (6, 1), (4, 4), (3, 1), (1, 2)))

    def test_one_degree_twice(self):
        self.assertEqual(nest().raised(4, 4, -1).kinds, ((7, 2), (4, 3), (3, 2), (1, 2)))
        self.assertEqual(nest().raised(4, 4, 1).kinds, ((7, 2), (5, 2), (4, 3), (1, 2)))
        self.assertEqual(nest().raised(7, 7, 1).kinds, ((8, 2), (4, 5), (1, 2)))
        self.assertEqual(nest().raised(1, 1, -1).kinds, ((7, 2), (4, 5), (0, 2)))

    def test_a_degree_that_one_place_alone_has(self):
        row = Row(((6, 1), (4, 1), (3, 1), (1, 2)))
        self.assertEqual(row.raised(6, 1, 1).kinds, ((7, 1), (4, 1), (3, 1), (2, 1), (1, 1)))
        self.assertEqual(row.raised(4, 3, 1).kinds, ((6, 1), (5, 1), (4, 1), (1, 2)))
        self.assertEqual(row.raised(3, 4, 1).kinds, ((6, 1), (5, 1), (4, 1), (1, 2)))
        self.assertEqual(row.raised(4, 3, -1).kinds, ((6, 1), (3, 1), (2, 1), (1, 2)))
        self.assertEqual(row.raised(3, 4, -1).kinds, ((6, 1), (3, 1), (2, 1), (1, 2)))
        self.check_raised(InvalidDegree, 4, row, 4, 4, 1)
        self.check_raised(InvalidDegree, 4, row, 4, 4, -1)

    def test_all_pairs_as_by_hand(self):
        rows = [nest(), Row(((6, 1), (4, 1), (3, 1), (1, 2))), Row(((5, 3), (4, 2), (3, 1), (2, 2))), Row(((1, 2),))]
        for row in rows:
            for one, many in row.kinds:
                for mate, _ in row.kinds:
                    if one == mate and many == 1:
                        continue
                    for by in (1, -1):
                        self.assertEqual(row.raised(one, mate, by), raised_by_hand(row, one, mate, by))
                        self.assertIs(type(row.raised(one, mate, by)), Row)

    def test_the_row_stays_as_it_is(self):
        row = nest()
        row.raised(7, 1, 1)
        self.assertEqual(row, nest())

    def test_wrong_degrees(self):
        for value in strange() + strange_tuples() + [3, 0, -1, 8, 10 ** 50, "7", (7,)]:
            self.check_raised(InvalidDegree, value, nest(), value, 7, 1)
            self.check_raised(InvalidDegree, value, nest(), 7, value, 1)

    def test_true_and_false_are_no_degrees(self):
        row = Row(((1, 2), (0, 2)))
        for value in (True, False):
            self.check_raised(InvalidDegree, value, row, value, 1, 1)
            self.check_raised(InvalidDegree, value, row, 1, value, 1)

    def test_wrong_numbers(self):
        for value in strange() + strange_tuples() + [0, 2, -2, 10 ** 50, "1", (1,), (-1,)]:
            self.check_raised(InvalidNumber, value, nest(), 7, 1, value)

    def test_degrees_below_nothing(self):
        row = Row(((3, 1), (0, 2)))
        self.check_raised(TooGreat, -1, row, 3, 0, -1)
        self.check_raised(TooGreat, -1, row, 0, 3, -1)
        self.check_raised(TooGreat, -1, row, 0, 0, -1)
        self.assertEqual(row.raised(0, 0, 1).kinds, ((3, 1), (1, 2)))

    def test_degrees_beyond_the_most(self):
        row = Row(((MOST, 2), (MOST - 1, 2), (3, 1)))
        self.check_raised(TooGreat, MOST + 1, row, MOST, 3, 1)
        self.check_raised(TooGreat, MOST + 1, row, 3, MOST, 1)
        self.check_raised(TooGreat, MOST + 1, row, MOST, MOST, 1)
        self.assertEqual(row.raised(MOST - 1, MOST - 1, 1).kinds, ((MOST, 4), (3, 1)))
        self.assertEqual(row.raised(MOST, MOST, -1).kinds, ((MOST - 1, 4), (3, 1)))

    def test_too_many_kinds(self):
        ten = Row(tuple((10 * degree, 2) for degree in range(10, 0, -1)))
        self.check_raised(TooMany, 12, ten, 100, 50, 1)
        self.assertEqual(len(ten.raised(50, 50, 1)), 10)
        more = Row(((100, 3),) + ten.kinds[1:])
        self.check_raised(TooMany, 11, more, 100, 100, 1)
        self.check_raised(TooMany, 11, more, 100, 100, -1)
        self.assertEqual(len(Row(ten.kinds[2:]).raised(10, 20, -1)), 10)
        self.check_raised(TooMany, 11, Row(ten.kinds[1:]), 10, 20, -1)

    def test_ten_kinds_that_stay_ten(self):
        row = Row(tuple((degree, 2) for degree in range(9, -1, -1)))
        self.assertEqual(len(row.raised(3, 5, 1)), 10)
        self.check_raised(TooMany, 11, row, 9, 5, 1)
        alone = Row(((9, 1),) + row.kinds[1:])
        self.assertEqual(len(alone.raised(9, 5, 1)), 10)

    def test_too_great_counts(self):
        row = Row(((5, MANY), (4, 1), (3, MANY), (2, 1)))
        self.check_raised(TooMany, MANY + 1, row, 4, 2, 1)
        self.check_raised(TooMany, MANY + 1, row, 4, 3, 1)
        self.check_raised(TooMany, MANY + 1, row, 4, 2, -1)
        self.check_raised(TooMany, MANY + 2, Row(((5, MANY), (4, 2))), 4, 4, 1)
        self.check_raised(TooMany, MANY + 1, Row(((5, MANY - 1), (4, 2))), 4, 4, 1)
        self.assertEqual(Row(((5, MANY - 2), (4, 2))).raised(4, 4, 1).kinds, ((5, MANY),))
        self.assertEqual(Row(((5, MANY), (4, MANY))).raised(5, 4, 1).kinds, ((6, 1), (5, MANY), (4, MANY - 1)))

    def test_kinds_come_ahead_of_counts(self):
        kinds = ((30, MANY), (29, 2)) + tuple((degree, 2) for degree in range(16, 0, -2))
        self.check_raised(TooMany, 11, Row(kinds), 29, 8, 1)

    def test_the_first_error(self):
        row = Row(((1, 1), (0, MANY)))
        self.check_raised(InvalidDegree, 9, row, 9, 8, 7)
        self.check_raised(InvalidDegree, 8, row, 0, 8, 7)
        self.check_raised(InvalidDegree, 1, row, 1, 1, 7)
        self.check_raised(InvalidNumber, 7, row, 0, 1, 7)
        self.check_raised(InvalidNumber, True, row, 0, 1, True)
        self.check_raised(TooGreat, -1, row, 1, 0, -1)

    def test_too_great_comes_ahead_of_too_many(self):
        ten = Row(tuple((10 * degree, 2) for degree in range(9, -1, -1)))
        self.check_raised(TooGreat, -1, ten, 50, 0, -1)


class Opposite(Errors, unittest.TestCase):
    def test_degrees_are_turned_round(self):
        self.assertEqual(nest().opposite().kinds, ((7, 2), (4, 5), (1, 2)))
        self.assertEqual(Row(((3, 1), (1, 3))).opposite().kinds, ((2, 3), (0, 1)))
        self.assertEqual(Row(((0, 5),)).opposite().kinds, ((4, 5),))
        self.assertEqual(Row(((4, 5),)).opposite().kinds, ((0, 5),))
        self.assertEqual(Row(((0, 1),)).opposite().kinds, ((0, 1),))
        self.assertIs(type(nest().opposite()), Row)

    def test_rows_that_cannot_be_have_opposites_too(self):
        self.assertEqual(Row(((3, 2), (1, 2))).opposite().kinds, ((2, 2), (0, 2)))
        self.assertEqual(Row(((1, 3),)).opposite().kinds, ((1, 3),))

    def test_large_rows(self):
        row = Row(((MANY, 1), (1, MANY)))
        self.assertEqual(row.opposite().kinds, ((MANY - 1, MANY), (0, 1)))
        full = Row(tuple((degree, MANY) for degree in range(9, -1, -1)))
        self.assertEqual(full.opposite().kinds, tuple((10 * MANY - 1 - degree, MANY) for degree in range(10)))
        self.assertEqual(full.opposite().opposite(), full)

    def test_degrees_that_are_too_great(self):
        for kinds in (((1, 1),), ((4, 4),), ((4, 1), (1, 3)), ((MOST, MANY), (0, MANY)), ((9, 1), (3, 2))):
            row = Row(kinds)
            with self.assertRaises(Cannot) as seen:
                row.opposite()
            self.assertIs(seen.exception.given, row)
            self.assertEqual(row.kinds, kinds)


class Changed(Errors, unittest.TestCase):
    def check_changes(self, index, changes, row=None):
        row = nest() if row is None else row
        before = row.text
        self.check_error(InvalidChanges, {"index": index}, row.changed, changes)
        self.check_error(InvalidChanges, {"index": index}, row.changed, changes=changes)
        self.assertEqual(row.text, before)

    def check_text(self, text, changes):
        self.check_error(InvalidText, {"given": text}, nest().changed, changes)

    def test_no_changes(self):
        self.assertEqual(nest().changed(()), nest())
        self.assertIs(type(nest().changed(changes=())), Row)

    def test_one_change(self):
        self.assertEqual(nest().changed((("4 x 5", "4 x 7"),)).kinds, ((7, 2), (4, 7), (1, 2)))
        self.assertEqual(nest().changed((("7 x 2", "9 x 1"),)).kinds, ((9, 1), (4, 5), (1, 2)))
        self.assertEqual(nest().changed((("4 x 5", "4 x 5"),)), nest())

    def test_several_changes_at_once(self):
        row = nest()
        self.assertEqual(str(row.changed((("1 x 2", ""), ("4 x 5", "4 x 7")))), "row\n7 x 2\n4 x 7")
        self.assertEqual(row.changed((("1 x 2", "4 x 5"), ("4 x 5", "6 x 1"))).kinds, ((7, 2), (6, 1), (4, 5)))
        self.assertEqual(row.changed((("4 x 5", "6 x 1"), ("1 x 2", "4 x 5"))).kinds, ((7, 2), (6, 1), (4, 5)))
        self.assertEqual(row.changed((("7 x 2", "4 x 5"), ("4 x 5", "1 x 2"), ("1 x 2", ""))).kinds, ((4, 5), (1, 2)))
        self.assertEqual(row, nest())

    def test_lines_taken_out(self):
        self.assertEqual(nest().changed((("7 x 2", ""),)).kinds, ((4, 5), (1, 2)))
        self.assertEqual(nest().changed((("7 x 2", ""), ("1 x 2", ""))).kinds, ((4, 5),))
        self.check_text("row", (("7 x 2", ""), ("4 x 5", ""), ("1 x 2", "")))

    def test_values_that_are_no_tuples(self):
        for value in strange() + [3, [("1 x 2", "")]]:
            self.check_changes(None, value)

    def test_values_that_are_no_pairs(self):
        right = ("1 x 2", "")
        for value in strange() + strange_tuples() + [3, (), ("1 x 2",), ("1 x 2", "", ""), ["1 x 2", ""], "ab"]:
            self.check_changes(0, (value,))
            self.check_changes(1, (right, value, value))

    def test_parts_that_are_no_strings(self):
        for value in strange() + strange_tuples() + [3, ()]:
            if isinstance(value, str):
                continue
            self.check_changes(0, ((value, "1 x 3"),))
            self.check_changes(0, (("1 x 2", value),))

    def test_lines_that_are_not_there(self):
        for old in ("", "row", "1 x 3", "1 x 2 ", "x", "7 x 2\n4 x 5", "1 X 2", "01 x 2"):
            self.check_changes(0, ((old, ""),))
            self.check_changes(1, (("1 x 2", ""), (old, "1 x 3")))

    def test_new_lines_with_newlines(self):
        for new in ("\n", "3 x 1\n2 x 1", "3 x 1\n", "\n3 x 1"):
            self.check_changes(0, (("4 x 5", new),))

    def test_one_line_twice(self):
        self.check_changes(1, (("1 x 2", ""), ("1 x 2", "")))
        self.check_changes(2, (("1 x 2", ""), ("4 x 5", ""), ("1 x 2", "1 x 4"), None))
        self.check_changes(1, (("1 x 2", "1 x 2"), ("1 x 2", "0 x 2")))
        self.check_changes(3, (("1 x 2", ""), ("4 x 5", ""), ("7 x 2", ""), ("4 x 5", "")))

    def test_a_line_that_another_change_puts_in(self):
        self.check_changes(1, (("1 x 2", "1 x 3"), ("1 x 3", "1 x 4")))

    def test_changed_texts_of_no_row(self):
        self.check_text("row\n7 x 2\n4 x 5\n4 x 2", (("1 x 2", "4 x 2"),))
        self.check_text("row\n3 x 2\n4 x 5\n1 x 2", (("7 x 2", "3 x 2"),))
        self.check_text("row\nx\n4 x 5\n1 x 2", (("7 x 2", "x"),))
        self.check_text("row\nrow\n4 x 5\n1 x 2", (("7 x 2", "row"),))
        self.check_text("row\n \n4 x 5\n1 x 2", (("7 x 2", " "),))
        self.check_text("row\n7 x 2\n4 x 05", (("1 x 2", ""), ("4 x 5", "4 x 05")))
        self.check_text(f"row\n7 x 2\n4 x 5\n1 x {MANY + 1}", (("1 x 2", f"1 x {MANY + 1}"),))

    def test_changes_are_looked_at_ahead_of_the_text(self):
        self.check_changes(1, (("7 x 2", "x"), ("9 x 9", "")))
        self.check_changes(1, (("7 x 2", "x"), None))

    def test_many_changes(self):
        row = Row(tuple((degree, 1) for degree in range(9, -1, -1)))
        changes = tuple((f"{degree} x 1", f"{degree + 1} x 2") for degree in range(10))
        self.assertEqual(row.changed(changes).kinds, tuple((degree, 2) for degree in range(10, 0, -1)))
        self.check_changes(10, changes + changes, row)


if __name__ == "__main__":
    unittest.main()
