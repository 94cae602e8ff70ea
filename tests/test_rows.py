import unittest

from degreerows.errors import InvalidDegrees, InvalidKinds, InvalidText
from degreerows.rows import Row
from tests.helpers import NEST_TEXT, Errors, nest, strange, strange_tuples

MOST = 10 ** 31
MANY = 10 ** 30


def stairs(many):
    """Kinds with the degrees from many - 1 down to 0."""
    return tuple((degree, 1) for degree in range(many - 1, -1, -1))


class Kinds(Errors, unittest.TestCase):
    def check_kinds(self, index, kinds):
        self.check_error(InvalidKinds, {"index": index}, Row, kinds)
        self.check_error(InvalidKinds, {"index": index}, Row, kinds=kinds)

    def test_kinds_are_as_they_were_passed(self):
        for kinds in (((7, 2), (4, 5), (1, 2)), ((0, 1),), ((MOST, MANY), (0, MANY)), ((MOST, 1), (MOST - 1, 1))):
            self.assertIs(Row(kinds).kinds, kinds)
            self.assertIs(Row(kinds=kinds).kinds, kinds)

    def test_one_kind_and_ten_kinds(self):
        self.assertEqual(len(Row(stairs(1))), 1)
        self.assertEqual(len(Row(stairs(10))), 10)

    def test_eleven_kinds(self):
        self.check_kinds(10, stairs(11))
        self.check_kinds(10, stairs(10) + (None,))
        self.check_kinds(10, stairs(300))
        self.check_kinds(9, stairs(12)[:9] + (None,) + stairs(12)[10:])

    def test_no_tuple_and_no_elements(self):
        for value in strange() + [3, ()]:
            self.check_kinds(None, value)
        self.check_kinds(None, [(7, 2)])

    def test_elements_that_are_no_pairs(self):
        for value in strange() + strange_tuples() + [3, (), (1,), (1, 2, 3), [1, 2], "12"]:
            self.check_kinds(0, (value,))
            self.check_kinds(0, (value, (1, 1)))
            self.check_kinds(1, ((7, 2), value))
            self.check_kinds(2, ((7, 2), (4, 5), value, value))

    def test_degrees_and_counts_that_are_no_integers(self):
        for value in strange() + strange_tuples():
            self.check_kinds(0, ((value, 2),))
            self.check_kinds(0, ((2, value),))
            self.check_kinds(1, ((2, 1), (value, 1)))
            self.check_kinds(1, ((2, 1), (1, value)))

    def test_true_and_false_are_no_integers(self):
        self.check_kinds(0, ((True, 1),))
        self.check_kinds(0, ((1, True),))
        self.check_kinds(1, ((1, 1), (False, 1)))
        self.assertEqual(Row(((1, 1), (0, 1))).kinds, ((1, 1), (0, 1)))

    def test_limits_of_degrees(self):
        self.assertEqual(Row(((0, 1),)).kinds, ((0, 1),))
        self.assertEqual(Row(((MOST, 1),)).kinds, ((MOST, 1),))
        self.check_kinds(0, ((-1, 1),))
        self.check_kinds(0, ((MOST + 1, 1),))
        self.check_kinds(1, ((0, 1), (-1, 1)))
        self.check_kinds(1, ((MOST, 1), (MOST + 1, 1)))

    def test_limits_of_counts(self):
        self.assertEqual(Row(((3, 1),)).places, 1)
        self.assertEqual(Row(((3, MANY),)).places, MANY)
        self.check_kinds(0, ((3, 0),))
        self.check_kinds(0, ((3, -1),))
        self.check_kinds(0, ((3, MANY + 1),))
        self.check_kinds(1, ((3, 1), (2, MANY + 1)))

    def test_degrees_descend(self):
        self.check_kinds(1, ((3, 2), (3, 1)))
        self.check_kinds(1, ((3, 2), (4, 1)))
        self.check_kinds(2, ((3, 2), (2, 1), (2, 1)))
        self.check_kinds(2, ((3, 2), (2, 1), (3, 1), (None, 1)))


class Texts(Errors, unittest.TestCase):
    def test_the_text_of_a_row(self):
        self.assertEqual(nest().text, NEST_TEXT)
        self.assertEqual(str(nest()), NEST_TEXT)
        self.assertEqual(Row(((0, 10),)).text, "row\n0 x 10")
        self.assertEqual(Row(((MOST, MANY), (0, 1))).text, f"row\n1{31 * '0'} x 1{30 * '0'}\n0 x 1")

    def test_texts_are_read(self):
        self.assertEqual(Row.read(NEST_TEXT).kinds, ((7, 2), (4, 5), (1, 2)))
        self.assertEqual(Row.read(text=NEST_TEXT).kinds, ((7, 2), (4, 5), (1, 2)))
        for kinds in (((0, 1),), stairs(10), ((MOST, MANY), (MOST - 1, 1), (10, 100), (0, MANY))):
            self.assertEqual(Row.read(Row(kinds).text).kinds, kinds)
            self.assertIs(type(Row.read(Row(kinds).text)), Row)

    def check_no_text(self, text):
        self.check_error(InvalidText, {"given": text}, Row.read, text)
        self.check_error(InvalidText, {"given": text}, Row.read, text=text)

    def test_other_values_are_no_texts(self):
        for value in strange() + strange_tuples() + [3, (), (NEST_TEXT,), [NEST_TEXT], NEST_TEXT.encode()]:
            self.check_error(InvalidText, {"given": value}, Row.read, value)

    def test_first_line(self):
        for text in ("", "row", "row\n", "\n", "Row\n7 x 2", "rows\n7 x 2", " row\n7 x 2", "row \n7 x 2", "7 x 2",
                     "row 7 x 2", "row\nrow\n7 x 2", "\nrow\n7 x 2", "row\n\n7 x 2", "7 x 2\nrow"):
            self.check_no_text(text)

    def test_lines_of_kinds(self):
        lines = (
            "7x 2", "7 x2", "7x2", "7  x 2", "7 x  2", " 7 x 2", "7 x 2 ", "7 X 2", "7 * 2", "7 x", "x 2", "7 2",
            "7 x 2 x 3", "07 x 2", "7 x 02", "00 x 2", "+7 x 2", "-0 x 2", "-1 x 2", "7 x -2", "7 x 0", "7.0 x 2",
            "7 x 2.0", "1_0 x 2", "7 x 1_0", "1e3 x 2", "0x7 x 2", "a x 2", "7 x a", " x ", "7 x 2\n", "7 x 2\n\n",
            "7, x 2", "(7, 2)", "True x 2", "7 y 2", "7 xx 2", "7 ~ 2", "7 0 2", "7\n2", "\u0663 x 2", "7 x \u0663",
            "\u00b2 x 2",
        )
        for line in lines:
            self.check_no_text("row\n" + line)
            self.check_no_text("row\n9 x 1\n" + line)

    def test_limits_within_texts(self):
        self.assertEqual(Row.read(f"row\n{MOST} x {MANY}").kinds, ((MOST, MANY),))
        for line in (f"{MOST + 1} x 1", f"1 x {MANY + 1}", "9" * 32 + " x 1", "1 x " + "9" * 31, "9" * 100 + " x 1",
                     "1 x " + "9" * 100, "0" * 40 + " x 1", "9" * 5000 + " x 1"):
            self.check_no_text("row\n" + line)

    def test_texts_of_kinds_that_are_none(self):
        self.check_no_text("row\n3 x 2\n3 x 1")
        self.check_no_text("row\n3 x 2\n4 x 1")
        self.assertEqual(len(Row.read("row\n" + "\n".join(f"{degree} x 1" for degree in range(9, -1, -1)))), 10)
        self.check_no_text("row\n" + "\n".join(f"{degree} x 1" for degree in range(10, -1, -1)))


class Listed(Errors, unittest.TestCase):
    def check_degrees(self, index, degrees):
        self.check_error(InvalidDegrees, {"index": index}, Row.listed, degrees)
        self.check_error(InvalidDegrees, {"index": index}, Row.listed, degrees=degrees)

    def test_any_order(self):
        self.assertEqual(Row.listed((2, 1, 2, 1)).kinds, ((2, 2), (1, 2)))
        self.assertEqual(Row.listed(degrees=(0, 5, 0, 3)).kinds, ((5, 1), (3, 1), (0, 2)))
        self.assertIs(type(Row.listed((1,))), Row)
        self.assertEqual(Row.listed((1, 4, 7, 4, 4, 1, 4, 4, 7)), nest())

    def test_one_and_a_thousand(self):
        self.assertEqual(Row.listed((0,)).kinds, ((0, 1),))
        self.assertEqual(Row.listed((3,) * 1000).kinds, ((3, 1000),))
        self.assertEqual(Row.listed((3, 4) * 500).kinds, ((4, 500), (3, 500)))
        self.check_degrees(1000, (3,) * 1001)
        self.check_degrees(1000, (3,) * 1000 + (None,))
        self.check_degrees(1000, (3,) * 2000)
        self.check_degrees(999, (3,) * 999 + (None, 3))

    def test_no_tuple_and_no_elements(self):
        for value in strange() + [3, ()]:
            self.check_degrees(None, value)

    def test_elements_that_are_none(self):
        for value in strange() + strange_tuples() + [-1, MOST + 1, (), (3,)]:
            self.check_degrees(0, (value,))
            self.check_degrees(1, (3, value, 3, value))
        self.check_degrees(2, (1, 0, True))
        self.check_degrees(2, (1, 0, False))

    def test_limits_of_degrees(self):
        self.assertEqual(Row.listed((0, MOST)).kinds, ((MOST, 1), (0, 1)))
        self.check_degrees(1, (MOST, MOST + 1))
        self.check_degrees(1, (0, -1))

    def test_eleven_unlike_degrees(self):
        self.assertEqual(Row.listed(tuple(range(10))).kinds, stairs(10))
        self.assertEqual(len(Row.listed(tuple(range(10)) * 100)), 10)
        self.check_degrees(10, tuple(range(11)))
        self.check_degrees(12, (5, 5, 5) + tuple(range(5)) + tuple(range(6, 20)))
        self.check_degrees(20, tuple(range(10)) * 2 + (10, 11))

    def test_elements_that_are_none_come_ahead_of_unlike_ones(self):
        self.check_degrees(50, tuple(range(50)) + (None,))
        self.check_degrees(50, tuple(range(50)) + (-1, None))
        self.check_degrees(1000, tuple(range(1001)))
        self.check_degrees(10, tuple(range(1000)))


class Told(unittest.TestCase):
    def test_places_and_ends(self):
        self.assertEqual([nest().places, nest().ends], [9, 36])
        self.assertEqual([Row(((0, 3),)).places, Row(((0, 3),)).ends], [3, 0])
        wide = Row(((MOST, MANY), (3, MANY), (0, 7)))
        self.assertEqual([wide.places, wide.ends], [2 * MANY + 7, MOST * MANY + 3 * MANY])

    def test_count(self):
        row = Row(((MOST, MANY), (4, 5), (1, 2), (0, 3)))
        self.assertEqual([row.count(degree) for degree in (MOST, 4, 1, 0)], [MANY, 5, 2, 3])
        self.assertEqual([row.count(degree=degree) for degree in (4, 3)], [5, 0])
        self.assertEqual([row.count(degree) for degree in (-1, 2, 3, 5, MOST + 1, 10 ** 60)], [0] * 6)
        for value in strange() + strange_tuples() + ["4", (4,), (), [4]]:
            self.assertEqual(row.count(value), 0)

    def test_count_of_true_and_false(self):
        row = Row(((1, 2), (0, 3)))
        for value in (row.count(True), row.count(False)):
            self.assertEqual(value, 0)

    def test_length_and_representation(self):
        self.assertEqual([len(nest()), repr(nest())], [3, "Row of 3 kinds"])
        self.assertEqual([len(Row(((0, 1),))), repr(Row(((0, 1),)))], [1, "Row of 1 kinds"])
        self.assertEqual(repr(Row(stairs(10))), "Row of 10 kinds")

    def test_equality(self):
        self.assertTrue(nest() == Row(((7, 2), (4, 5), (1, 2))))
        self.assertFalse(nest() != Row(((7, 2), (4, 5), (1, 2))))
        for kinds in (((7, 2), (4, 5)), ((7, 2), (4, 5), (1, 3)), ((7, 2), (4, 5), (0, 2)), ((4, 5), (1, 2))):
            self.assertFalse(nest() == Row(kinds))
            self.assertTrue(nest() != Row(kinds))
        for value in strange() + strange_tuples() + [NEST_TEXT, nest().kinds, list(nest().kinds), 3]:
            if isinstance(value, Row):
                continue
            self.assertIs(nest() == value, False)
            self.assertIs(nest() != value, True)

    def test_rows_are_true(self):
        self.assertIs(bool(Row(((0, 1),))), True)

    def test_properties_cannot_be_set(self):
        row = nest()
        for name in ("kinds", "places", "ends", "text"):
            with self.assertRaises(AttributeError):
                setattr(row, name, 3)
        self.assertEqual(row, nest())

    def test_defined_in_the_class(self):
        for name in ("read", "listed", "kinds", "places", "ends", "text", "count", "raised", "opposite", "changed",
                     "__init__", "__eq__", "__len__", "__str__", "__repr__"):
            self.assertIn(name, vars(Row))
        self.assertEqual(Row.__module__, "degreerows.rows")


if __name__ == "__main__":
    unittest.main()
