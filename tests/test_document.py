"""The examples of the document, as they stand there."""

import unittest

from degreerows.certain import bond, bonds
from degreerows.certificates import certify_bond, certify_can, certify_one, certify_two
from degreerows.checker import accepts
from degreerows.consoles import Console
from degreerows.drafts import Draft
from degreerows.errors import Broken, Cannot, InvalidKinds
from degreerows.judging import barred, can_be, room
from degreerows.libraries import Library
from degreerows.mends import kept, mends
from degreerows.nearest import nearest
from degreerows.parting import is_whole, pieces
from degreerows.rows import Row
from degreerows.sides import Sides, alone_row, around, sides_can_be, sides_one
from degreerows.single import family, faults, has_one_web
from degreerows.webs import are_alike, count_webs, row_of, two_webs, web


class Examples(unittest.TestCase):
    def setUp(self):
        self.nest = Row.read("row\n7 x 2\n4 x 5\n1 x 2")

    def test_rows(self):
        nest = self.nest
        self.assertEqual(
            [nest.places, nest.ends, nest.count(4), nest.count("4"), len(nest), repr(nest),
             Row.listed((2, 1, 2, 1)).kinds, nest.opposite().kinds],
            [9, 36, 5, 0, 3, "Row of 3 kinds", ((2, 2), (1, 2)), ((7, 2), (4, 5), (1, 2))],
        )
        self.assertEqual(
            [nest.raised(7, 1, 1).kinds, nest.raised(4, 4, -1).kinds,
             str(nest.changed((("1 x 2", ""), ("4 x 5", "4 x 7"))))],
            [((8, 1), (7, 1), (4, 5), (2, 1), (1, 1)), ((7, 2), (4, 3), (3, 2), (1, 2)), "row\n7 x 2\n4 x 7"],
        )
        with self.assertRaises(InvalidKinds) as seen:
            Row(((3, 2), (3, 1)))
        self.assertEqual(seen.exception.index, 1)

    def test_judging(self):
        nest = self.nest
        self.assertEqual(
            [can_be(nest), barred(nest), room(nest, 2), room(nest, 9), barred(Row.listed((3, 3, 1, 1))),
             barred(Row.listed((2, 1))), can_be(Row(((10 ** 30, 1), (1, 10 ** 30))))],
            [True, None, 0, 36, 2, 0, True],
        )

    def test_parting(self):
        nest = self.nest
        self.assertEqual(
            [pieces(nest), is_whole(nest)], [(("halves", ((1, 2),), ((1, 2),)), ("rest", ((2, 5),))), False],
        )
        self.assertEqual(
            [pieces(Row.listed((3, 3, 2, 2))), pieces(Row.listed((2, 2, 1, 1))),
             pieces(Row.listed((0, 2, 2, 2, 2, 2, 2))), pieces(Row(((10 ** 30, 1), (1, 10 ** 30))))[0]],
            [(("tied", 2), ("alone", 2)), (("halves", ((1, 2),), ((1, 2),)),),
             (("alone", 1), ("rest", ((2, 6),))), ("tied", 1)],
        )

    def test_single(self):
        nest = self.nest
        self.assertEqual([family(piece) for piece in pieces(nest)], [("stars", "plain"), ("ring", "plain")])
        self.assertEqual(
            [has_one_web(nest), has_one_web(Row.listed((2, 2, 2, 2, 2, 2))), faults(Row.listed((0, 2, 2, 2, 2, 2, 2))),
             has_one_web(Row.listed((3, 3, 1, 1))), has_one_web(Row(((10 ** 20, 1), (1, 7 * 10 ** 20))))],
            [True, False, (1,), False, True],
        )
        self.assertEqual(
            [family(("rest", ((2, 4),))), family(("rest", ((4, 1), (2, 5)))),
             family(("halves", ((2, 3),), ((2, 1), (1, 4)))),
             family(("halves", ((5, 1), (3, 1), (2, 2)), ((2, 6),)))],
            [("pairs", "opposite"), ("hub", "plain"), ("bridge", "plain"), None],
        )

    def test_sides(self):
        path = Sides(((1, 2),), ((1, 2),))
        self.assertEqual(
            [around(path, Row(((2, 5),))) == self.nest, alone_row(path).kinds,
             sides_can_be(Sides(((3, 1),), ((1, 2),))), sides_one(path), sides_one(Sides(((2, 3),), ((2, 3),))),
             sides_one(Sides(((2, 4),), ((2, 4),)))],
            [True, ((2, 2), (1, 2)), False, True, True, False],
        )
        self.assertEqual(
            [Sides(((2, 3),), ((2, 1), (1, 4))).turned("opposite").inner,
             Sides(((2, 3),), ((2, 1), (1, 4))).turned("turned").outer],
            [((2, 4), (1, 1)), ((2, 4), (1, 1))],
        )

    def test_certain(self):
        nest = self.nest
        self.assertEqual(
            [bond(nest, 7, 4), bond(nest, 1, 7), bond(nest, 4, 4), bond(nest, 1, 4)],
            ["tied", "open", "open", "apart"],
        )
        self.assertEqual(bonds(Row.listed((3, 3, 2, 2))), ((3, 3, "tied"), (3, 2, "tied"), (2, 2, "apart")))

    def test_webs(self):
        self.assertEqual(
            [row_of(*web(Row.listed((3, 2, 2, 2, 1)))).kinds,
             are_alike(4, ((0, 1), (1, 2), (2, 3)), ((0, 2), (0, 3), (1, 3))),
             are_alike(4, ((0, 1), (1, 2)), ((0, 1), (2, 3)))],
            [((3, 1), (2, 3), (1, 1)), True, False],
        )
        self.assertEqual(
            [count_webs(Row.listed((2, 2, 2, 2, 2, 2))), count_webs(Row.listed((2, 2, 2, 2, 1, 1))),
             count_webs(Row.listed((3, 3, 1, 1))), two_webs(Row.listed((2, 2, 2, 2, 2)))],
            [2, 3, 0, None],
        )
        first, second = two_webs(Row.listed((2, 2, 2, 2, 2, 2)))
        self.assertIs(are_alike(6, first[1], second[1]), False)

    def test_nearest(self):
        self.assertEqual(
            [(steps, [row.kinds for row in rows]) for steps, rows in (
                nearest(Row.listed((2, 2, 2, 2, 2, 2))), nearest(Row.listed((3, 3, 1, 1))), nearest(Row.listed((1, 1))),
            )],
            [(2, [((2, 5), (0, 1)), ((4, 1), (2, 5))]),
             (2, [((2, 2), (1, 2)), ((3, 1), (1, 3)), ((3, 1), (2, 2), (1, 1)), ((3, 2), (2, 2))]), (0, [((1, 2),)])],
        )

    def test_mends(self):
        nest = self.nest
        self.assertEqual(
            [kept(nest, ("one",)), kept(nest, ("pieces", 1)), kept(nest, ("tied", 7, 4)), kept(nest, ("apart", 1, 1)),
             kept(nest, ("tied", 5, 4)), kept(Row.listed((2, 1)), ("can",))],
            [True, False, True, True, False, False],
        )
        self.assertEqual(
            mends(Row(((2, 6),)), (("one",),), (("2 x 6", "2 x 5"), ("2 x 6", "2 x 7"), ("2 x 6", "2 x 4"))),
            ((0,), (2,)),
        )

    def test_drafts(self):
        draft = Draft(Row.listed((2, 2, 2, 2, 2, 2)))
        self.assertEqual(
            [draft.tie(2, 2), draft.row.kinds, draft.cut(3, 2), draft.row.kinds, draft.deeds, draft.undo(), len(draft),
             draft.tried(len)],
            [False, ((3, 2), (2, 4)), False, ((3, 1), (2, 4), (1, 1)), (("tie", 2, 2), ("cut", 3, 2)), None, 1, 1],
        )
        with self.assertRaises(Cannot) as seen:
            Draft(Row.listed((1, 1))).tie(1, 1)
        self.assertEqual(repr(seen.exception.given), "Row of 1 kinds")

    def test_consoles(self):
        console = Console()
        self.assertEqual(
            [console.do("row n 7 x 2, 4 x 5, 1 x 2"), console.do("one n"), console.do("pieces n"),
             console.do("bond n 7 1"), console.do("bond n 7 3"), console.do("row k 2 x 6"), console.do("one k")],
            ["put", "one web", "halves rest", "open", "no such places", "put", "several webs"],
        )
        self.assertEqual(
            [console.do("can k"), console.do("undo"), console.do("can k"), console.do("row k 3 x 1"),
             console.do("pieces k"), console.do("bond n 07 1"), console.do("row K 1 x 2"), console.names],
            ["yes", "undone", "no such row", "put", "no web", "no such line", "no name", ("k", "n")],
        )

    def test_libraries(self):
        library = Library()
        library["all"] = self.nest
        library.wish("all", ("one",))
        self.assertEqual(
            [library.names, library.wishes, library.changes, "all" in library],
            [("all",), (("all", ("one",)),), 2, True],
        )
        with self.assertRaises(Broken) as seen:
            library["all"] = Row(((2, 6),))
        self.assertEqual(seen.exception.index, 0)

    def test_certificates(self):
        nest = self.nest
        pairs = (
            certify_can(nest), certify_can(Row.listed((3, 3, 1, 1))), certify_one(nest), certify_two(Row(((2, 6),))),
            certify_bond(nest, 7, 4), certify_bond(nest, 1, 7),
        )
        self.assertEqual(
            [[accepts(*pair) for pair in pairs], [pair[0][0] for pair in pairs], certify_one(Row(((2, 6),))),
             certify_two(nest)],
            [[True] * 6, ["can", "cannot", "one", "two", "tied", "open"], None, None],
        )
        self.assertEqual(
            [accepts(("one", "row\n2 x 2\n1 x 2"), (("halves", ((1, 2),), ((1, 2),)),)),
             accepts(("one", "row\n2 x 6"), (("rest", ((2, 6),)),)), accepts(("cannot", "row\n3 x 2\n1 x 2"), 2),
             accepts(("apart", str(nest), 1, 4), 0)],
            [True, False, True, False],
        )


if __name__ == "__main__":
    unittest.main()
