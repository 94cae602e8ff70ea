"""The examples of the document, as they stand there."""

import unittest

from degreerows.errors import InvalidKinds
from degreerows.judging import barred, can_be, room
from degreerows.rows import Row


class Examples(unittest.TestCase):
    def setUp(self):
        self.nest = Row.read("row\n7 x 2\n4 x 5\n1 x 2")

    def test_rows(self):
        nest = self.nest
        self.assertEqual(
            [nest.places, nest.ends, nest.count(4), nest.count("4"), len(nest), repr(nest),
             Row.listed((2, 1, 2, 1)).kinds, nest.opposite().kinds],
            [9, 36, 5, 0, 3, "Row of 3 kinds", ((2, 2), (1, 2)), ((7, 2), (4, 5), (1, 2))],
        )
        self.assertEqual(
            [nest.raised(7, 1, 1).kinds, nest.raised(4, 4, -1).kinds,
             str(nest.changed((("1 x 2", ""), ("4 x 5", "4 x 7"))))],
            [((8, 1), (7, 1), (4, 5), (2, 1), (1, 1)), ((7, 2), (4, 3), (3, 2), (1, 2)), "row\n7 x 2\n4 x 7"],
        )
        with self.assertRaises(InvalidKinds) as seen:
            Row(((3, 2), (3, 1)))
        self.assertEqual(seen.exception.index, 1)

    def test_judging(self):
        nest = self.nest
        self.assertEqual(
            [can_be(nest), barred(nest), room(nest, 2), room(nest, 9), barred(Row.listed((3, 3, 1, 1))),
             barred(Row.listed((2, 1))), can_be(Row(((10 ** 30, 1), (1, 10 ** 30))))],
            [True, None, 0, 36, 2, 0, True],
        )


if __name__ == "__main__":
    unittest.main()
