"""The program as a whole: answers to one question from several sides, and the names of all that can be called."""

import inspect
import random
import unittest
from importlib import import_module
from itertools import combinations_with_replacement

from degreerows.certain import bond, bonds
from degreerows.certificates import certify_bond, certify_can, certify_one, certify_two
from degreerows.checker import accepts
from degreerows.consoles import Console
from degreerows.drafts import Draft
from degreerows.errors import Broken, Cannot
from degreerows.judging import barred, can_be, room
from degreerows.libraries import Library
from degreerows.mends import kept, mends
from degreerows.nearest import nearest
from degreerows.parting import is_whole, pieces
from degreerows.rows import Row
from degreerows.sides import Sides, alone_row, around, sides_can_be, sides_one
from degreerows.single import family, faults, has_one_web
from degreerows.webs import count_webs, row_of, two_webs, web
from tests.helpers import nest

MANY = 10 ** 30

# Of each module of the interface what can be called, with the names of its parameters.
CALLS = {
    "rows": {
        "Row": ["kinds"], "Row.read": ["text"], "Row.listed": ["degrees"], "Row.count": ["self", "degree"],
        "Row.raised": ["self", "one", "mate", "by"], "Row.opposite": ["self"], "Row.changed": ["self", "changes"],
        "Row.__eq__": 2, "Row.__len__": 1, "Row.__str__": 1, "Row.__repr__": 1,
    },
    "judging": {"can_be": ["row"], "barred": ["row"], "room": ["row", "k"]},
    "parting": {"pieces": ["row"], "is_whole": ["row"]},
    "single": {"family": ["piece"], "has_one_web": ["row"], "faults": ["row"]},
    "sides": {
        "Sides": ["inner", "outer"], "Sides.turned": ["self", "reading"], "Sides.__eq__": 2, "Sides.__repr__": 1,
        "sides_can_be": ["sides"], "sides_one": ["sides"], "around": ["sides", "row"], "alone_row": ["sides"],
    },
    "certain": {"bond": ["row", "one", "mate"], "bonds": ["row"]},
    "webs": {
        "web": ["row"], "row_of": ["n", "ties"], "are_alike": ["n", "ties", "others"], "two_webs": ["row"],
        "count_webs": ["row"],
    },
    "nearest": {"nearest": ["row"]},
    "mends": {"kept": ["row", "wish"], "mends": ["row", "wishes", "changes"]},
    "drafts": {
        "Draft": ["row"], "Draft.tie": ["self", "one", "mate"], "Draft.cut": ["self", "one", "mate"],
        "Draft.undo": ["self"], "Draft.trial": ["self"], "Draft.tried": ["self", "action"], "Draft.__len__": 1,
    },
    "consoles": {"Console": [], "Console.do": ["self", "line"]},
    "libraries": {
        "Library": [], "Library.remove": ["self", "name"], "Library.wish": ["self", "name", "wish"],
        "Library.lift": ["self", "index"], "Library.undo": ["self"], "Library.trial": ["self"],
        "Library.tried": ["self", "action"], "Library.__getitem__": 2, "Library.__setitem__": 3,
        "Library.__contains__": 2, "Library.__len__": 1,
    },
    "checker": {"accepts": ["claim", "certificate"]},
    "certificates": {
        "certify_can": ["row"], "certify_one": ["row"], "certify_two": ["row"], "certify_bond": ["row", "one", "mate"],
    },
}
PROPERTIES = {
    "rows": {"Row": ["kinds", "places", "ends", "text"]}, "sides": {"Sides": ["inner", "outer"]},
    "drafts": {"Draft": ["first", "row", "deeds"]}, "consoles": {"Console": ["names"]},
    "libraries": {"Library": ["names", "wishes", "changes"]},
}


class Interface(unittest.TestCase):
    def test_all_that_can_be_called(self):
        for file, calls in CALLS.items():
            module = import_module(f"degreerows.{file}")
            for path, told in calls.items():
                owner = module
                for name in path.split("."):
                    # Looked for in the module or in the class itself, not in a base class.
                    self.assertIn(name, vars(owner), path)
                    owner = getattr(owner, name)
                self.assertEqual(owner.__module__, module.__name__, path)
                parameters = inspect.signature(owner).parameters
                if isinstance(told, int):
                    self.assertEqual(len(parameters), told, path)
                    continue
                self.assertEqual(list(parameters), told, path)
                for parameter in parameters.values():
                    self.assertIs(parameter.kind, inspect.Parameter.POSITIONAL_OR_KEYWORD)
                    self.assertIs(parameter.default, inspect.Parameter.empty)

    def test_properties(self):
        for file, classes in PROPERTIES.items():
            module = import_module(f"degreerows.{file}")
            for name, told in classes.items():
                for word in told:
                    self.assertIsInstance(vars(getattr(module, name))[word], property)


def can_by_all(row):
    """Whether the row can be, as each part of the program tells it; the row has at most seven places."""
    console = Console()
    console.do("row n " + ", ".join(row.text.split("\n")[1:]))
    library = Library()
    library["n"] = row
    found = [
        can_be(row), barred(row) is None, count_webs(row) > 0, certify_can(row)[0][0] == "can", kept(row, ("can",)),
        console.do("can n") == "yes", console.do("one n") != "no web", accepts(("can", row.text), ()),
        room_is_nowhere_below(row), mends(row, (("can",),), ()) == ((),),
    ]
    for call, errors in (
        (lambda: pieces(row), Cannot), (lambda: web(row), Cannot), (lambda: Draft(row), Cannot),
        (lambda: bonds(row), Cannot), (lambda: two_webs(row), Cannot), (lambda: certify_one(row), Cannot),
        (lambda: faults(row), Cannot), (lambda: library.wish("n", ("can",)), Broken), (lambda: is_whole(row), Cannot),
        (lambda: certify_two(row), Cannot),
    ):
        try:
            call()
            found.append(True)
        except errors:
            found.append(False)
    return found


def room_is_nowhere_below(row):
    return row.ends % 2 == 0 and min(room(row, k) for k in range(1, row.places + 1)) >= 0


def one_by_all(row):
    """Whether the row, which can be, has one web, as each part of the program tells it."""
    console = Console()
    console.do("row n " + ", ".join(row.text.split("\n")[1:]))
    library = Library()
    library["n"] = row
    found = [
        has_one_web(row), count_webs(row) == 1, two_webs(row) is None, certify_one(row) is not None, faults(row) == (),
        certify_two(row) is None, kept(row, ("one",)), console.do("one n") == "one web",
        accepts(("one", row.text), pieces(row)), mends(row, (("one",),), ()) == ((),),
        None not in [family(piece) for piece in pieces(row)],
    ]
    try:
        library.wish("n", ("one",))
        found.append(True)
    except Broken:
        found.append(False)
    return found


class Together(unittest.TestCase):
    def small_rows(self, most):
        for places in range(1, most + 1):
            for degrees in combinations_with_replacement(range(places, -1, -1), places):
                yield Row.listed(degrees)

    def test_whether_a_row_can_be(self):
        for row in self.small_rows(6):
            self.assertEqual(len(set(can_by_all(row))), 1, row.kinds)

    def test_whether_a_row_has_one_web(self):
        for row in self.small_rows(6):
            if can_be(row):
                self.assertEqual(len(set(one_by_all(row))), 1, row.kinds)

    def test_no_step_to_the_nearest_row(self):
        for row in self.small_rows(5):
            steps, rows = nearest(row)
            self.assertIs(steps == 0, has_one_web(row))
            self.assertIs(rows == (row,), has_one_web(row))
            self.assertTrue(all(has_one_web(near) for near in rows))

    def test_two_places(self):
        for row in self.small_rows(6):
            if not can_be(row):
                continue
            console, draft = Console(), Draft(row)
            console.do("row n " + ", ".join(row.text.split("\n")[1:]))
            for one, mate, word in bonds(row):
                self.assertEqual(bond(row, mate, one), word)
                self.assertEqual(console.do(f"bond n {one} {mate}"), word)
                self.assertEqual(certify_bond(row, one, mate)[0][0], word)
                told = [kept(row, (wished, one, mate)) for wished in ("tied", "apart")]
                self.assertEqual(told, [word == "tied", word == "apart"])
                self.assertIs(self.is_done(draft, draft.tie, one, mate), word != "tied")
                if mate > 0:
                    self.assertIs(self.is_done(draft, draft.cut, one, mate), word != "apart")

    def is_done(self, draft, call, one, mate):
        """Whether the deed is done; it is taken back."""
        try:
            call(one, mate)
        except Cannot:
            return False
        draft.undo()
        return True

    def test_webs_of_a_row_and_rows_of_webs(self):
        for row in self.small_rows(6):
            if can_be(row):
                for told in [web(row)] + list(two_webs(row) or []):
                    self.assertEqual(row_of(*told), row)

    def test_pieces_around_one_another_give_the_row(self):
        for row in self.small_rows(7):
            if not can_be(row):
                continue
            left = None
            for word, *parts in reversed(pieces(row)):
                if word == "rest":
                    left = Row(parts[0])
                elif word == "halves":
                    sides = Sides(*parts)
                    self.assertIs(sides_can_be(sides), True)
                    self.assertIs(sides_one(sides), family((word, *parts)) is not None)
                    left = alone_row(sides) if left is None else around(sides, left)
                elif left is None:
                    left = Row(((0 if word == "alone" else parts[0] - 1, parts[0]),))
                elif word == "alone":
                    left = Row(left.kinds + ((0, parts[0]),))
                else:
                    raised = tuple((degree + parts[0], many) for degree, many in left.kinds)
                    left = Row(((left.places + parts[0] - 1, parts[0]),) + raised)
            self.assertEqual(left, row)


class Again(unittest.TestCase):
    def test_equal_answers_by_turns(self):
        """Each question about each row, again and again, in drawn orders."""
        rows = [
            nest(), Row(((2, 6),)), Row(((3, 2), (1, 2))), Row(((0, 1),)), Row(((MANY, 1), (1, MANY))),
            Row(((2, 2), (1, 2))), Row(((1, 7),)), Row(((3, 6),)),
        ]
        calls = [
            can_be, barred, pieces, is_whole, has_one_web, faults, bonds, web, two_webs, count_webs, nearest,
            certify_can, certify_one, certify_two, lambda row: kept(row, ("one",)), lambda row: row.opposite(),
            lambda row: mends(row, (("one",),), tuple((line, "") for line in row.text.split("\n")[1:])),
            lambda row: [(near.kinds, near.text) for near in (row, row.changed(()))],
        ]
        chance = random.Random(95)
        questions = [(at, index) for at in range(len(rows)) for index in range(len(calls))] * 3
        chance.shuffle(questions)
        seen = {}
        texts = [row.text for row in rows]
        for at, index in questions:
            fresh = chance.random() < 0.3
            told = self.answer(calls[index], Row(rows[at].kinds) if fresh else rows[at])
            self.assertEqual(seen.setdefault((at, index), told), told)
        self.assertEqual([row.text for row in rows], texts)

    def answer(self, call, row):
        try:
            return call(row)
        except ArithmeticError as error:
            return (type(error), vars(error))


if __name__ == "__main__":
    unittest.main()
