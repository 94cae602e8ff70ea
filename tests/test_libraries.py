import random
import unittest

from degreerows.errors import (
    Broken, InUse, InvalidIndex, InvalidName, InvalidWish, NothingToUndo, NotRow, UnknownName,
)
from degreerows.libraries import Library
from degreerows.mends import kept
from degreerows.rows import Row
from tests.helpers import Errors, Odd, Same, nest, strange, strange_tuples
from tests.test_mends import wrong_wishes

MANY = 10 ** 30
SIX = Row(((2, 6),))
FIVE = Row(((2, 5),))
BAD = Row(((3, 2), (1, 2)))


class Stop(Exception):
    pass


def put(library, name, row):
    library[name] = row


def get(library, name):
    return library[name]


def seen_of(library):
    """All that a library tells of itself."""
    rows = [(name, library[name]) for name in library.names]
    return (library.names, rows, library.wishes, library.changes, len(library))


def filled():
    """A library with two rows, three wishes, and seven changes, one of them taken back."""
    library = Library()
    library["all"] = nest()
    library["k"] = SIX
    library.wish("all", ("one",))
    library.wish("k", ("can",))
    library.wish("all", ("tied", 7, 4))
    library["gone"] = FIVE
    library.undo()
    library["all"] = nest()
    return library


class Model:
    """A plain library: the rows and the wishes as they were behind each change."""

    def __init__(self):
        self.past = [({}, [])]

    def now(self):
        rows, wishes = self.past[-1]
        return dict(rows), list(wishes)

    def undo(self):
        if len(self.past) == 1:
            raise NothingToUndo()
        self.past.pop()

    def put(self, name, row):
        rows, wishes = self.now()
        rows[name] = row
        for index, (wished, wish) in enumerate(wishes):
            if wished == name and not kept(row, wish):
                raise Broken(index)
        self.past.append((rows, wishes))

    def remove(self, name):
        rows, wishes = self.now()
        if name not in rows:
            raise UnknownName(name)
        for index, (wished, _) in enumerate(wishes):
            if wished == name:
                raise InUse(index)
        del rows[name]
        self.past.append((rows, wishes))

    def wish(self, name, wish):
        rows, wishes = self.now()
        if name not in rows:
            raise UnknownName(name)
        wishes.append((name, wish))
        if not kept(rows[name], wish):
            raise Broken(len(wishes) - 1)
        self.past.append((rows, wishes))

    def lift(self, index):
        rows, wishes = self.now()
        if not 0 <= index < len(wishes):
            raise InvalidIndex(index)
        del wishes[index]
        self.past.append((rows, wishes))

    def seen(self):
        rows, wishes = self.now()
        return (
            tuple(sorted(rows)), sorted(rows.items(), key=lambda pair: pair[0]), tuple(wishes), len(self.past) - 1,
            len(rows),
        )


def outcome(call, *parts):
    """What the call returns, or its error with what it tells."""
    try:
        return call(*parts)
    except (Broken, InUse, InvalidIndex, NothingToUndo, UnknownName) as error:
        return (type(error).__name__, vars(error))


NAMES = ("a", "b", "c1")
WISHES = (("can",), ("one",), ("pieces", 1), ("pieces", 2), ("tied", 2, 2), ("apart", 1, 1), ("tied", 3, 1))


class Deeds(unittest.TestCase):
    def some_row(self, chance):
        return chance.choice([SIX, FIVE, BAD, nest(), Row(((1, 2),)), Row(((3, 1), (1, 3))), Row(((2, 3),)),
                              Row(((2, 2), (1, 2)))])

    def change(self, chance, library, model):
        """One drawn deed, done by both."""
        word = chance.choice(["put", "put", "remove", "wish", "wish", "lift", "undo"])
        name = chance.choice(NAMES)
        if word == "put":
            row = self.some_row(chance)
            told, right = outcome(put, library, name, row), outcome(model.put, name, row)
        elif word == "undo":
            told, right = outcome(library.undo), outcome(model.undo)
        elif word == "remove":
            told, right = outcome(library.remove, name), outcome(model.remove, name)
        elif word == "wish":
            wish = chance.choice(WISHES)
            told, right = outcome(library.wish, name, wish), outcome(model.wish, name, wish)
        else:
            index = chance.randint(-1, 4)
            told, right = outcome(library.lift, index), outcome(model.lift, index)
        self.assertEqual(told, right, word)
        self.assertEqual(seen_of(library), model.seen())
        return (word, None if told is None else told[0])

    def test_drawn_deeds_beside_a_plain_model(self):
        chance = random.Random(71)
        seen = {}
        for _ in range(60):
            library, model = Library(), Model()
            for _ in range(60):
                told = self.change(chance, library, model)
                seen[told] = seen.get(told, 0) + 1
                for name in NAMES:
                    self.assertIs(name in library, name in model.now()[0])
                for name, wish in library.wishes:
                    self.assertIs(kept(library[name], wish), True)
        for told in (
            ("put", None), ("put", "Broken"), ("remove", None), ("remove", "InUse"), ("remove", "UnknownName"),
            ("wish", None), ("wish", "Broken"), ("wish", "UnknownName"), ("lift", None), ("lift", "InvalidIndex"),
            ("undo", None), ("undo", "NothingToUndo"),
        ):
            self.assertGreater(seen[told], 15, told)

    def test_drawn_trials_within_trials(self):
        chance = random.Random(72)
        for _ in range(60):
            library, model = Library(), Model()
            objects = [library.trial() for _ in range(2)]
            for _ in range(6):
                self.change(chance, library, model)
            self.try_out(chance, library, model, objects, 3)

    def try_out(self, chance, library, model, objects, depth):
        for _ in range(3):
            past = list(model.past)
            ends_with_an_error = chance.random() < 0.6
            try:
                with chance.choice(objects + [library.trial()]) as given:
                    self.assertIs(given, library)
                    for _ in range(4):
                        self.change(chance, library, model)
                    if depth > 0:
                        self.try_out(chance, library, model, objects, depth - 1)
                    if ends_with_an_error:
                        raise Stop
                self.assertFalse(ends_with_an_error)
            except Stop:
                self.assertTrue(ends_with_an_error)
                model.past = past
            self.assertEqual(seen_of(library), model.seen())
            self.change(chance, library, model)

    def test_deeds_of_the_document(self):
        library = Library()
        library["all"] = nest()
        self.assertIsNone(library.wish("all", ("one",)))
        self.assertEqual(library.names, ("all",))
        self.assertEqual((library.wishes, library.changes), ((("all", ("one",)),), 2))
        with self.assertRaises(Broken) as caught:
            library["all"] = SIX
        self.assertEqual(caught.exception.index, 0)
        self.assertEqual(library["all"], nest())

    def test_rows_are_those_that_were_put(self):
        library, row = Library(), nest()
        library["n"] = row
        self.assertIs(library["n"], row)
        library["n"] = SIX
        self.assertIs(library["n"], SIX)
        library.undo()
        self.assertIs(library["n"], row)
        self.assertEqual(row, nest())

    def test_wishes_are_as_they_were_passed(self):
        library = Library()
        library["n"] = nest()
        wishes = [("pieces", 10 ** 60), ("tied", 7, 4), ("can",)]
        for wish in wishes:
            library.wish("n", wish)
        self.assertEqual([name for name, _ in library.wishes], ["n"] * 3)
        for (_, told), wish in zip(library.wishes, wishes):
            self.assertIs(told, wish)
        self.assertIs(type(library.wishes), tuple)
        self.assertEqual({type(pair) for pair in library.wishes}, {tuple})

    def test_each_change_counts(self):
        library = Library()
        self.assertEqual(library.changes, 0)
        for count in range(1, 4):
            library["n"] = FIVE
            self.assertEqual(library.changes, count)
        library.wish("n", ("can",))
        library.wish("n", ("can",))
        self.assertEqual(library.changes, 5)
        library.lift(0)
        self.assertEqual((library.changes, library.wishes), (6, (("n", ("can",)),)))
        library.lift(0)
        self.assertIsNone(library.remove("n"))
        self.assertEqual((library.changes, library.wishes, library.names), (8, (), ()))
        for count in range(7, -1, -1):
            self.assertIsNone(library.undo())
            self.assertEqual(library.changes, count)
        self.assertEqual(seen_of(library), seen_of(Library()))
        self.assertIs(type(library.changes), int)

    def test_rows_that_cannot_be_may_be_put(self):
        library = Library()
        library["n"] = BAD
        self.assertEqual(library["n"], BAD)
        with self.assertRaises(Broken) as caught:
            library.wish("n", ("can",))
        self.assertEqual(caught.exception.index, 0)
        library["n"] = FIVE
        library.wish("n", ("can",))
        with self.assertRaises(Broken):
            library["n"] = BAD

    def test_great_rows(self):
        library = Library()
        library["g"] = Row(((MANY, 1), (1, MANY)))
        for wish in (("one",), ("tied", MANY, 1), ("apart", 1, 1), ("pieces", 2)):
            library.wish("g", wish)
        with self.assertRaises(Broken) as caught:
            library["g"] = Row(((MANY - 2, 1), (1, MANY)))
        self.assertEqual(caught.exception.index, 1)
        self.assertEqual(library.changes, 5)

    def test_by_name(self):
        library = Library()
        library["n"] = nest()
        self.assertIsNone(library.wish(wish=("one",), name="n"))
        self.assertIsNone(library.lift(index=0))
        self.assertIsNone(library.remove(name="n"))
        self.assertEqual(library.tried(action=len), 0)


class Names(Errors, unittest.TestCase):
    def test_names_that_are_none(self):
        for value in strange() + strange_tuples() + [
            3, (), "A", "1", "1a", "a_", "aB", "abcdefghi", "a b", " a", "a ", "a\n", "\n", "-", "a-b", ("a",), b"a",
            "~", "ab.", "a" * 100,
        ]:
            if isinstance(value, str) and value in ("x", "row"):
                continue
            library = filled()
            before = seen_of(library)
            self.check_error(InvalidName, {"given": value}, put, library, value, nest())
            self.check_error(InvalidName, {"given": value}, put, library, value, None)
            self.assertEqual(seen_of(library), before)

    def test_names_that_are_some(self):
        library = Library()
        names = ("z9", "a", "b0", "abcdefgh", "a1234567", "z", "row")
        for name in names:
            library[name] = nest()
        self.assertEqual(library.names, tuple(sorted(names)))
        self.assertIs(type(library.names), tuple)
        self.assertEqual(len(library), 7)

    def test_unknown_names(self):
        for value in strange() + strange_tuples() + [
            3, (), "A", "b", "al", "alll", "all ", ("all",), "abcdefghi", "gone", 10 ** 90,
        ]:
            library = filled()
            before = seen_of(library)
            self.check_error(UnknownName, {"given": value}, get, library, value)
            self.check_error(UnknownName, {"given": value}, library.remove, value)
            self.check_error(UnknownName, {"given": value}, library.remove, name=value)
            self.check_error(UnknownName, {"given": value}, library.wish, value, ("can",))
            self.check_error(UnknownName, {"given": value}, library.wish, wish=None, name=value)
            self.assertEqual(seen_of(library), before)

    def test_in(self):
        library = filled()
        self.assertIs("all" in library, True)
        self.assertIs("k" in library, True)
        for value in strange() + strange_tuples() + [
            3, (), "A", "b", "al", ("all",), "gone", nest(), ("all", ("one",)), ["all"], b"all",
        ]:
            self.assertIs(value in library, False)
            self.assertIs(value not in library, True)


class Wishes(Errors, unittest.TestCase):
    def check_put(self, index, library, name, row):
        before = seen_of(library)
        self.check_error(Broken, {"index": index}, put, library, name, row)
        self.assertEqual(seen_of(library), before)

    def check_wish(self, index, library, name, wish):
        before = seen_of(library)
        self.check_error(Broken, {"index": index}, library.wish, name, wish)
        self.check_error(Broken, {"index": index}, library.wish, wish=wish, name=name)
        self.assertEqual(seen_of(library), before)

    def test_values_that_are_no_rows(self):
        library = filled()
        before = seen_of(library)
        for value in strange() + strange_tuples() + [3, (), nest().text, nest().kinds]:
            if isinstance(value, Row):
                continue
            for name in ("all", "new"):
                self.check_error(NotRow, {"given": value}, put, library, name, value)
        self.assertEqual(seen_of(library), before)

    def test_values_that_are_no_wishes(self):
        library = filled()
        library["bad"] = BAD
        before = seen_of(library)
        for value in wrong_wishes():
            for name in ("all", "bad"):
                self.check_error(InvalidWish, {"given": value}, library.wish, name, value)
                self.check_error(InvalidWish, {"given": value}, library.wish, wish=value, name=name)
        self.assertEqual(seen_of(library), before)

    def test_the_first_wish_that_does_not_hold(self):
        library = Library()
        library["a"], library["b"] = FIVE, FIVE
        for name, wish in (
            ("b", ("one",)), ("a", ("can",)), ("b", ("pieces", 1)), ("a", ("one",)), ("a", ("one",)), ("b", ("can",)),
        ):
            library.wish(name, wish)
        self.check_put(1, library, "a", BAD)
        self.check_put(3, library, "a", SIX)
        self.check_put(0, library, "b", SIX)
        self.check_put(2, library, "b", nest())
        library.lift(1)
        self.check_put(2, library, "a", BAD)
        library.lift(0)
        self.check_put(0, library, "b", nest())
        self.check_put(0, library, "b", BAD)
        library["c"] = BAD
        self.check_wish(4, library, "c", ("can",))
        self.check_wish(4, library, "a", ("pieces", 0))
        self.check_wish(4, library, "a", ("apart", 2, 2))

    def test_wishes_for_one_name_leave_others_alone(self):
        library = Library()
        library["a"] = FIVE
        library.wish("a", ("one",))
        library["b"] = SIX
        library["b"] = BAD
        self.assertEqual(library.names, ("a", "b"))

    def test_lift(self):
        library = Library()
        library["a"] = FIVE
        for wish in (("can",), ("one",), ("pieces", 1), ("pieces", 2)):
            library.wish("a", wish)
        self.assertIsNone(library.lift(3))
        self.assertEqual([wish for _, wish in library.wishes], [("can",), ("one",), ("pieces", 1)])
        library.lift(0)
        self.assertEqual([wish for _, wish in library.wishes], [("one",), ("pieces", 1)])
        library.undo()
        self.assertEqual([wish for _, wish in library.wishes], [("can",), ("one",), ("pieces", 1)])
        library.lift(1)
        self.assertEqual([wish for _, wish in library.wishes], [("can",), ("pieces", 1)])

    def test_indexes_that_are_none(self):
        library = filled()
        before = seen_of(library)
        for value in strange() + strange_tuples() + [(), 3, 4, -1, -3, 10 ** 90, "0", (0,), [0]]:
            self.check_error(InvalidIndex, {"given": value}, library.lift, value)
            self.check_error(InvalidIndex, {"given": value}, library.lift, index=value)
        self.assertEqual(seen_of(library), before)
        for value in (0, -1, 1, None, False):
            self.check_error(InvalidIndex, {"given": value}, Library().lift, value)

    def test_names_in_use(self):
        library = filled()
        before = seen_of(library)
        self.check_error(InUse, {"index": 0}, library.remove, "all")
        self.check_error(InUse, {"index": 1}, library.remove, name="k")
        self.assertEqual(seen_of(library), before)
        library.lift(0)
        self.check_error(InUse, {"index": 1}, library.remove, "all")
        self.check_error(InUse, {"index": 0}, library.remove, "k")
        library.lift(1)
        self.assertIsNone(library.remove("all"))
        self.check_error(InUse, {"index": 0}, library.remove, "k")
        self.assertEqual(library.names, ("k",))

    def test_the_first_error(self):
        library = filled()
        before = seen_of(library)
        self.check_error(InvalidName, {"given": "A"}, put, library, "A", None)
        self.check_error(NotRow, {"given": None}, put, library, "all", None)
        self.check_error(UnknownName, {"given": "b"}, library.wish, "b", None)
        self.check_error(InvalidWish, {"given": ("can", 1)}, library.wish, "all", ("can", 1))
        self.assertEqual(seen_of(library), before)

    def test_nothing_to_undo(self):
        library = Library()
        self.check_error(NothingToUndo, {}, library.undo)
        library["a"] = FIVE
        library.undo()
        self.check_error(NothingToUndo, {}, library.undo)
        self.check_error(UnknownName, {"given": "a"}, library.remove, "a")
        self.check_error(NothingToUndo, {}, library.undo)
        self.assertEqual(seen_of(library), seen_of(Library()))


class Trials(unittest.TestCase):
    def test_a_block_that_ends_without_an_error(self):
        library = Library()
        with library.trial() as given:
            self.assertIs(given, library)
            library["a"] = FIVE
            library.wish("a", ("one",))
        self.assertEqual((library.names, library.changes), (("a",), 2))
        with library.trial():
            library.undo()
            library.undo()
        self.assertEqual(seen_of(library), seen_of(Library()))

    def test_a_block_that_ends_with_an_error(self):
        library = filled()
        before = seen_of(library)
        stop = Stop()
        with self.assertRaises(Stop) as caught:
            with library.trial():
                library["new"] = SIX
                library.lift(0)
                library.remove("new")
                raise stop
        self.assertIs(caught.exception, stop)
        self.assertEqual(seen_of(library), before)
        for error in (KeyboardInterrupt, GeneratorExit, SystemExit, StopIteration):
            with self.assertRaises(error):
                with library.trial():
                    library["new"] = SIX
                    raise error
            self.assertEqual(seen_of(library), before)
        with self.assertRaises(Broken):
            with library.trial():
                library["new"] = SIX
                library["all"] = SIX
        self.assertEqual(seen_of(library), before)

    def test_a_caught_error_within_the_block(self):
        library = filled()
        with library.trial():
            library["new"] = SIX
            with self.assertRaises(Broken):
                library["all"] = SIX
        self.assertEqual(library.names, ("all", "k", "new"))

    def test_taking_back_what_was_done_ahead_of_a_trial(self):
        library = filled()
        before = seen_of(library)
        with self.assertRaises(Stop):
            with library.trial():
                for _ in range(before[3]):
                    library.undo()
                with self.assertRaises(NothingToUndo):
                    library.undo()
                library["other"] = BAD
                raise Stop
        self.assertEqual(seen_of(library), before)
        for left in range(before[3] - 1, -1, -1):
            library.undo()
            self.assertEqual(library.changes, left)
        self.assertEqual(library.names, ())

    def test_one_object_for_several_statements_and_within_itself(self):
        library = Library()
        trial = library.trial()
        library["a"] = FIVE
        with self.assertRaises(Stop):
            with trial:
                library["b"] = FIVE
                with trial:
                    library["c"] = FIVE
                self.assertEqual(library.names, ("a", "b", "c"))
                with self.assertRaises(Stop):
                    with trial:
                        library["d"] = FIVE
                        library.undo()
                        library.undo()
                        raise Stop
                self.assertEqual((library.names, library.changes), (("a", "b", "c"), 3))
                raise Stop
        self.assertEqual((library.names, library.changes), (("a",), 1))
        with trial:
            library["b"] = SIX
        self.assertEqual((library.names, library.changes), (("a", "b"), 2))
        with self.assertRaises(Stop):
            with trial:
                library.undo()
                raise Stop
        self.assertEqual((library.names, library.changes), (("a", "b"), 2))

    def test_tried(self):
        library = filled()
        before = seen_of(library)
        told = object()

        def action(given):
            self.assertIs(given, library)
            given["new"] = SIX
            return (told, len(given))

        self.assertEqual(library.tried(action), (told, 3))
        self.assertEqual(library.names, ("all", "k", "new"))
        self.assertIsNone(library.tried(action=lambda given: given.undo()))
        self.assertEqual(seen_of(library), before)

        def failing(given):
            given["new"] = SIX
            given.tried(action)
            put(given, "all", SIX)

        with self.assertRaises(Broken) as caught:
            library.tried(failing)
        self.assertEqual(caught.exception.index, 0)
        self.assertEqual(seen_of(library), before)

    def test_tried_within_tried(self):
        library = Library()

        def inner(given):
            given["b"] = FIVE
            raise Stop

        def outer(given):
            given["a"] = FIVE
            with self.assertRaises(Stop):
                given.tried(inner)
            return given.names

        self.assertEqual(library.tried(outer), ("a",))
        self.assertEqual((library.names, library.changes), (("a",), 1))


class TheClass(unittest.TestCase):
    def test_libraries_are_of_their_own(self):
        library, other = Library(), Library()
        library["a"] = FIVE
        self.assertEqual((other.names, other.changes, len(other)), ((), 0, 0))

    def test_equality_and_truth(self):
        library, other = Library(), Library()
        self.assertIs(library == other, False)
        self.assertIs(library != other, True)
        same = library
        self.assertIs(library == same, True)
        self.assertIs(library != same, False)
        for value in strange() + strange_tuples() + [3, (), {}, Odd(), Same()]:
            self.assertIs(library == value, False)
            self.assertIs(library != value, True)
        self.assertIs(bool(library), True)
        self.assertEqual(len(library), 0)
        self.assertIs(bool(filled()), True)
        self.assertIs(type(len(filled())), int)

    def test_properties_cannot_be_set(self):
        library = filled()
        before = seen_of(library)
        for name in ("names", "wishes", "changes"):
            with self.assertRaises(AttributeError):
                setattr(library, name, ())
        self.assertEqual(seen_of(library), before)

    def test_defined_in_the_class(self):
        for name in (
            "remove", "wish", "lift", "undo", "names", "wishes", "changes", "trial", "tried", "__getitem__",
            "__setitem__", "__contains__", "__len__", "__init__",
        ):
            self.assertIn(name, vars(Library))
        self.assertEqual(Library.__module__, "degreerows.libraries")


if __name__ == "__main__":
    unittest.main()
