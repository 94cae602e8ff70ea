"""The examples of the document, as they stand there."""

import unittest

from degreerows.certain import bond, bonds
from degreerows.errors import InvalidKinds
from degreerows.judging import barred, can_be, room
from degreerows.parting import is_whole, pieces
from degreerows.rows import Row
from degreerows.sides import Sides, alone_row, around, sides_can_be, sides_one
from degreerows.single import family, faults, has_one_web


class Examples(unittest.TestCase):
    def setUp(self):
        self.nest = Row.read("row\n7 x 2\n4 x 5\n1 x 2")

    def test_rows(self):
        nest = self.nest
        self.assertEqual(
            [nest.places, nest.ends, nest.count(4), nest.count("4"), len(nest), repr(nest),
             Row.listed((2, 1, 2, 1)).kinds, nest.opposite().kinds],
            [9, 36, 5, 0, 3, "Row of 3 kinds", ((2, 2), (1, 2)), ((7, 2), (4, 5), (1, 2))],
        )
        self.assertEqual(
            [nest.raised(7, 1, 1).kinds, nest.raised(4, 4, -1).kinds,
             str(nest.changed((("1 x 2", ""), ("4 x 5", "4 x 7"))))],
            [((8, 1), (7, 1), (4, 5), (2, 1), (1, 1)), ((7, 2), (4, 3), (3, 2), (1, 2)), "row\n7 x 2\n4 x 7"],
        )
        with self.assertRaises(InvalidKinds) as seen:
            Row(((3, 2), (3, 1)))
        self.assertEqual(seen.exception.index, 1)

    def test_judging(self):
        nest = self.nest
        self.assertEqual(
            [can_be(nest), barred(nest), room(nest, 2), room(nest, 9), barred(Row.listed((3, 3, 1, 1))),
             barred(Row.listed((2, 1))), can_be(Row(((10 ** 30, 1), (1, 10 ** 30))))],
            [True, None, 0, 36, 2, 0, True],
        )

    def test_parting(self):
        nest = self.nest
        self.assertEqual(
            [pieces(nest), is_whole(nest)], [(("halves", ((1, 2),), ((1, 2),)), ("rest", ((2, 5),))), False],
        )
        self.assertEqual(
            [pieces(Row.listed((3, 3, 2, 2))), pieces(Row.listed((2, 2, 1, 1))),
             pieces(Row.listed((0, 2, 2, 2, 2, 2, 2))), pieces(Row(((10 ** 30, 1), (1, 10 ** 30))))[0]],
            [(("tied", 2), ("alone", 2)), (("halves", ((1, 2),), ((1, 2),)),),
             (("alone", 1), ("rest", ((2, 6),))), ("tied", 1)],
        )

    def test_single(self):
        nest = self.nest
        self.assertEqual([family(piece) for piece in pieces(nest)], [("stars", "plain"), ("ring", "plain")])
        self.assertEqual(
            [has_one_web(nest), has_one_web(Row.listed((2, 2, 2, 2, 2, 2))), faults(Row.listed((0, 2, 2, 2, 2, 2, 2))),
             has_one_web(Row.listed((3, 3, 1, 1))), has_one_web(Row(((10 ** 20, 1), (1, 7 * 10 ** 20))))],
            [True, False, (1,), False, True],
        )
        self.assertEqual(
            [family(("rest", ((2, 4),))), family(("rest", ((4, 1), (2, 5)))),
             family(("halves", ((2, 3),), ((2, 1), (1, 4)))),
             family(("halves", ((5, 1), (3, 1), (2, 2)), ((2, 6),)))],
            [("pairs", "opposite"), ("hub", "plain"), ("bridge", "plain"), None],
        )

    def test_sides(self):
        path = Sides(((1, 2),), ((1, 2),))
        self.assertEqual(
            [around(path, Row(((2, 5),))) == self.nest, alone_row(path).kinds,
             sides_can_be(Sides(((3, 1),), ((1, 2),))), sides_one(path), sides_one(Sides(((2, 3),), ((2, 3),))),
             sides_one(Sides(((2, 4),), ((2, 4),)))],
            [True, ((2, 2), (1, 2)), False, True, True, False],
        )
        self.assertEqual(
            [Sides(((2, 3),), ((2, 1), (1, 4))).turned("opposite").inner,
             Sides(((2, 3),), ((2, 1), (1, 4))).turned("turned").outer],
            [((2, 4), (1, 1)), ((2, 4), (1, 1))],
        )

    def test_certain(self):
        nest = self.nest
        self.assertEqual(
            [bond(nest, 7, 4), bond(nest, 1, 7), bond(nest, 4, 4), bond(nest, 1, 4)],
            ["tied", "open", "open", "apart"],
        )
        self.assertEqual(bonds(Row.listed((3, 3, 2, 2))), ((3, 3, "tied"), (3, 2, "tied"), (2, 2, "apart")))


if __name__ == "__main__":
    unittest.main()
