import random
import unittest

from degreerows.drafts import Draft
from degreerows.errors import Cannot, InvalidDegree, NothingToUndo, NotRow, TooGreat, TooMany
from degreerows.judging import can_be
from degreerows.rows import Row
from degreerows.single import has_one_web
from tests.helpers import Errors, Odd, Same, nest, strange, strange_tuples

MOST = 10 ** 31
MANY = 10 ** 30


class Stop(Exception):
    pass


def six():
    return Draft(Row(((2, 6),)))


def seen_of(draft):
    """All that a draft tells of itself."""
    return (draft.first, draft.row, draft.deeds, len(draft))


def led_by_hand(degrees, one, mate, by):
    """The degrees, place by place."""
    left = list(degrees)
    left.remove(one)
    left.remove(mate)
    return left + [one + by, mate + by]


class Model:
    """A row that is led on by itself: the degrees as they were behind each deed, and the deeds."""

    def __init__(self, degrees):
        self.past = [(list(degrees), None)]

    def degrees(self):
        return self.past[-1][0]

    def deeds(self):
        return tuple(deed for _, deed in self.past[1:])


class Deeds(unittest.TestCase):
    def check_same(self, draft, model, first):
        self.assertIs(draft.first, first)
        self.assertEqual(draft.row, Row.listed(tuple(model.degrees())))
        self.assertEqual(draft.deeds, model.deeds())
        self.assertEqual(len(draft), len(model.deeds()))
        self.assertIs(bool(draft), True)

    def lead(self, chance, draft, model):
        """One drawn deed, or taking one back, done by both."""
        if chance.random() < 0.25:
            if len(model.past) == 1:
                with self.assertRaises(NothingToUndo):
                    draft.undo()
            else:
                self.assertIsNone(draft.undo())
                model.past.pop()
            return "undo"
        word, by = chance.choice([("tie", 1), ("cut", -1)])
        one, mate = [chance.choice(model.degrees()) for _ in range(2)]
        call = getattr(draft, word)
        if one == mate and model.degrees().count(one) == 1:
            with self.assertRaises(InvalidDegree):
                call(one, mate)
            return "InvalidDegree"
        degrees = led_by_hand(model.degrees(), one, mate, by)
        if min(degrees) < 0:
            with self.assertRaises(TooGreat):
                call(one, mate)
            return "TooGreat"
        if len(set(degrees)) > 10:
            with self.assertRaises(TooMany):
                call(one, mate)
            return "TooMany"
        row = Row.listed(tuple(degrees))
        if not can_be(row):
            with self.assertRaises(Cannot) as caught:
                call(one, mate)
            self.assertEqual(caught.exception.given, row)
            return "Cannot"
        self.assertIs(call(one, mate), has_one_web(row))
        model.past.append((degrees, (word, one, mate)))
        return has_one_web(row)

    def test_drawn_deeds_beside_a_row_that_is_led_on_by_itself(self):
        chance = random.Random(51)
        seen = {}
        for _ in range(150):
            most = chance.choice([2, 3, 12])
            degrees = [chance.randint(0, most) for _ in range(chance.randint(2, 14))]
            if len(set(degrees)) > 10 or not can_be(Row.listed(tuple(degrees))):
                continue
            first = Row.listed(tuple(degrees))
            draft, model = Draft(first), Model(degrees)
            for _ in range(40):
                told = self.lead(chance, draft, model)
                seen[told] = seen.get(told, 0) + 1
                self.check_same(draft, model, first)
        for told in (True, False, "undo", "InvalidDegree", "TooGreat", "Cannot"):
            self.assertGreater(seen[told], 20, told)

    def test_drawn_trials_within_trials(self):
        chance = random.Random(52)
        for _ in range(120):
            degrees = [chance.randint(1, 5) for _ in range(8)]
            first = Row.listed(tuple(degrees))
            if not can_be(first):
                continue
            draft, model = Draft(first), Model(degrees)
            objects = [draft.trial() for _ in range(2)]
            for _ in range(6):
                self.lead(chance, draft, model)
            self.try_out(chance, draft, model, first, objects, 3)

    def try_out(self, chance, draft, model, first, objects, depth):
        for _ in range(3):
            before, past = seen_of(draft), list(model.past)
            trial = chance.choice(objects + [draft.trial()])
            ends_with_an_error = chance.random() < 0.5
            try:
                with trial as given:
                    self.assertIs(given, draft)
                    for _ in range(4):
                        self.lead(chance, draft, model)
                        self.check_same(draft, model, first)
                    if depth > 0:
                        self.try_out(chance, draft, model, first, objects, depth - 1)
                    if ends_with_an_error:
                        raise Stop
                self.assertFalse(ends_with_an_error)
            except Stop:
                self.assertTrue(ends_with_an_error)
            model.past = past
            self.check_same(draft, model, first)
            self.assertEqual(seen_of(draft), before)
            self.lead(chance, draft, model)

    def test_deeds_of_the_document(self):
        draft = six()
        self.assertIs(draft.tie(2, 2), False)
        self.assertEqual(draft.row.kinds, ((3, 2), (2, 4)))
        self.assertIs(draft.cut(3, 2), False)
        self.assertEqual(draft.row.kinds, ((3, 1), (2, 4), (1, 1)))
        self.assertEqual(draft.deeds, (("tie", 2, 2), ("cut", 3, 2)))
        self.assertIsNone(draft.undo())
        self.assertEqual(draft.deeds, (("tie", 2, 2),))
        self.assertEqual(draft.row.kinds, ((3, 2), (2, 4)))
        self.assertEqual(draft.first.kinds, ((2, 6),))
        self.assertIsNone(draft.undo())
        self.assertEqual(seen_of(draft), (Row(((2, 6),)), Row(((2, 6),)), (), 0))

    def test_by_name_and_kinds_of_answers(self):
        draft = Draft(row=Row(((2, 6),)))
        self.assertIs(draft.tie(one=2, mate=2), False)
        self.assertIs(draft.cut(mate=2, one=3), False)
        self.assertEqual(draft.deeds, (("tie", 2, 2), ("cut", 3, 2)))
        self.assertIs(type(draft.deeds), tuple)
        self.assertEqual({type(deed) for deed in draft.deeds}, {tuple})
        self.assertIs(type(draft.row), Row)
        self.assertIs(type(len(draft)), int)
        self.assertEqual(draft.tried(action=len), 2)

    def test_one_web_and_several(self):
        draft = Draft(Row(((1, 4),)))
        self.assertIs(draft.cut(1, 1), True)
        self.assertIs(draft.cut(1, 1), True)
        self.assertEqual(draft.row.kinds, ((0, 4),))
        draft = Draft(Row(((2, 5),)))
        self.assertIs(draft.tie(2, 2), False)
        self.assertIs(draft.tie(2, 2), True)
        self.assertEqual(draft.row.kinds, ((3, 4), (2, 1)))

    def test_the_row_that_was_passed_stays_as_it_is(self):
        row = nest()
        draft = Draft(row)
        self.assertIs(draft.first, row)
        draft.tie(4, 4)
        self.assertIs(draft.first, row)
        self.assertEqual(row, nest())
        self.assertEqual(draft.row.kinds, ((7, 2), (5, 2), (4, 3), (1, 2)))

    def test_many_deeds(self):
        draft = Draft(Row(((0, MANY),)))
        for _ in range(300):
            draft.tie(0, 0)
        self.assertEqual(draft.row.kinds, ((1, 600), (0, MANY - 600)))
        self.assertEqual((len(draft), draft.deeds), (300, (("tie", 0, 0),) * 300))
        for _ in range(300):
            draft.undo()
        with self.assertRaises(NothingToUndo):
            draft.undo()


class Trials(unittest.TestCase):
    def test_a_trial_begins_when_the_statement_begins(self):
        draft = six()
        trial = draft.trial()
        draft.tie(2, 2)
        with trial as given:
            self.assertIs(given, draft)
            draft.tie(2, 2)
            self.assertEqual(len(draft), 2)
        self.assertEqual(draft.deeds, (("tie", 2, 2),))
        self.assertEqual(draft.row.kinds, ((3, 2), (2, 4)))

    def test_one_object_for_several_statements_and_within_itself(self):
        draft = six()
        trial = draft.trial()
        for _ in range(2):
            with trial:
                draft.tie(2, 2)
            self.assertEqual(draft.deeds, ())
        draft.tie(2, 2)
        with trial:
            draft.tie(3, 2)
            with trial:
                draft.tie(2, 2)
                with draft.trial():
                    draft.undo()
                    draft.undo()
                    draft.undo()
                    self.assertEqual(draft.deeds, ())
                self.assertEqual(len(draft), 3)
                with trial:
                    draft.undo()
                self.assertEqual(len(draft), 3)
            self.assertEqual(draft.deeds, (("tie", 2, 2), ("tie", 3, 2)))
        self.assertEqual(draft.deeds, (("tie", 2, 2),))
        with trial:
            draft.undo()
        self.assertEqual(draft.deeds, (("tie", 2, 2),))

    def test_taking_back_what_was_done_ahead_of_a_trial(self):
        draft = six()
        draft.tie(2, 2)
        draft.cut(3, 2)
        with draft.trial():
            draft.undo()
            draft.undo()
            with self.assertRaises(NothingToUndo):
                draft.undo()
            self.assertEqual((draft.deeds, draft.row), ((), draft.first))
            draft.cut(2, 2)
            self.assertEqual(draft.deeds, (("cut", 2, 2),))
        self.assertEqual(draft.deeds, (("tie", 2, 2), ("cut", 3, 2)))
        draft.undo()
        self.assertEqual(draft.row.kinds, ((3, 2), (2, 4)))
        draft.undo()
        self.assertEqual(draft.row.kinds, ((2, 6),))

    def test_a_block_that_ends_with_an_error(self):
        draft = six()
        draft.tie(2, 2)
        stop = Stop()
        with self.assertRaises(Stop) as caught:
            with draft.trial():
                draft.undo()
                raise stop
        self.assertIs(caught.exception, stop)
        self.assertEqual(draft.deeds, (("tie", 2, 2),))
        for error in (KeyboardInterrupt, GeneratorExit, SystemExit, StopIteration):
            with self.assertRaises(error):
                with draft.trial():
                    draft.cut(2, 2)
                    raise error
            self.assertEqual(draft.deeds, (("tie", 2, 2),))
        with self.assertRaises(InvalidDegree):
            with draft.trial():
                draft.cut(2, 2)
                draft.tie(9, 2)
        self.assertEqual(draft.deeds, (("tie", 2, 2),))

    def test_a_block_that_is_left_early(self):
        draft = six()

        def led():
            with draft.trial():
                draft.tie(2, 2)
                return len(draft)

        self.assertEqual((led(), len(draft)), (1, 0))
        for _ in range(2):
            with draft.trial():
                draft.tie(2, 2)
                continue
        self.assertEqual(len(draft), 0)

    def test_two_trials_by_turns(self):
        """Two statements of which the first one ends first, as generators let it."""
        draft = six()

        def statement():
            with draft.trial():
                yield

        draft.tie(2, 2)
        first, second = statement(), statement()
        next(first)
        draft.tie(2, 2)
        next(second)
        draft.tie(2, 2)
        self.assertEqual(list(first), [])
        self.assertEqual(len(draft), 1)
        self.assertEqual(list(second), [])
        self.assertEqual(len(draft), 2)

    def test_tried(self):
        draft = six()
        draft.tie(2, 2)
        told = object()

        def action(given):
            self.assertIs(given, draft)
            given.cut(2, 2)
            given.cut(3, 3)
            return (told, len(given))

        self.assertEqual(draft.tried(action), (told, 3))
        self.assertEqual(draft.deeds, (("tie", 2, 2),))
        self.assertIsNone(draft.tried(lambda given: given.undo()))
        self.assertEqual(draft.deeds, (("tie", 2, 2),))
        self.assertEqual(draft.tried(lambda given: given.tried(lambda inner: inner.cut(2, 2)) or len(given)), 1)
        self.assertIs(draft.tried(action=lambda given: given.tie(3, 3)), has_one_web(Row(((4, 2), (2, 4)))))

    def test_tried_with_an_error(self):
        draft = six()
        stop = Stop()

        def action(given):
            given.tie(2, 2)
            raise stop

        with self.assertRaises(Stop) as caught:
            draft.tried(action)
        self.assertIs(caught.exception, stop)
        self.assertEqual(seen_of(draft), (Row(((2, 6),)), Row(((2, 6),)), (), 0))


class Edges(Errors, unittest.TestCase):
    def check_deed(self, error, given, draft, word, one, mate):
        before = seen_of(draft)
        self.check_error(error, {"given": given}, getattr(draft, word), one, mate)
        self.check_error(error, {"given": given}, getattr(draft, word), mate=mate, one=one)
        self.assertEqual(seen_of(draft), before)

    def test_degrees_at_zero(self):
        draft = Draft(Row(((1, 2), (0, 3))))
        self.check_deed(TooGreat, -1, draft, "cut", 1, 0)
        self.check_deed(TooGreat, -1, draft, "cut", 0, 1)
        self.check_deed(TooGreat, -1, draft, "cut", 0, 0)
        self.assertIs(draft.tie(0, 0), True)
        self.assertEqual(draft.row.kinds, ((1, 4), (0, 1)))
        self.assertIs(draft.cut(1, 1), True)

    def test_degrees_at_the_limit(self):
        """No row that can be has a degree of 10 ** 31; this one has the next one to it."""
        draft = Draft(Row(tuple((10 * MANY - degree, MANY) for degree in range(1, 11))))
        self.check_deed(TooMany, 11, draft, "tie", 10 * MANY - 1, 10 * MANY - 1)
        self.check_deed(TooMany, MANY + 2, draft, "tie", 10 * MANY - 3, 10 * MANY - 3)
        full = Draft(Row(((MANY - 1, MANY),)))
        self.check_deed(Cannot, Row(((MANY, 2), (MANY - 1, MANY - 2))), full, "tie", MANY - 1, MANY - 1)
        self.assertIs(full.cut(MANY - 1, MANY - 1), True)
        self.assertEqual(full.row.kinds, ((MANY - 1, MANY - 2), (MANY - 2, 2)))
        self.assertIs(full.tie(MANY - 2, MANY - 2), True)
        self.assertEqual(full.row.kinds, ((MANY - 1, MANY),))

    def test_ten_kinds(self):
        ten = Draft(Row(tuple((10 * degree, 100) for degree in range(10, 0, -1))))
        self.check_deed(TooMany, 12, ten, "tie", 100, 50)
        self.check_deed(TooMany, 11, ten, "cut", 50, 50)
        nine = Draft(Row(tuple((10 * degree, 100) for degree in range(9, 0, -1))))
        self.assertIs(nine.tie(10, 10), False)
        self.assertEqual(len(nine.row), 10)
        self.check_deed(TooMany, 11, nine, "tie", 20, 20)

    def test_counts_at_the_limit(self):
        draft = Draft(Row(((3, MANY), (2, MANY), (1, 4))))
        self.check_deed(TooMany, MANY + 1, draft, "tie", 1, 3)
        self.check_deed(TooMany, MANY + 2, draft, "tie", 1, 1)
        self.assertIs(draft.tie(2, 3), False)
        self.assertEqual(draft.row.kinds, ((4, 1), (3, MANY), (2, MANY - 1), (1, 4)))

    def test_equal_degrees(self):
        draft = Draft(Row(((2, 1), (1, 2))))
        self.check_deed(InvalidDegree, 2, draft, "tie", 2, 2)
        self.check_deed(InvalidDegree, 2, draft, "cut", 2, 2)
        self.check_deed(Cannot, Row(((3, 1), (2, 1), (1, 1))), draft, "tie", 2, 1)
        self.assertIs(draft.tie(1, 1), True)
        self.assertEqual(draft.row.kinds, ((2, 3),))
        self.assertEqual(Draft(Row(((2, 1), (1, 2)))).cut(2, 1), True)

    def test_rows_that_would_come_and_cannot_be(self):
        self.check_deed(Cannot, Row(((2, 2),)), Draft(Row(((1, 2),))), "tie", 1, 1)
        self.check_deed(Cannot, Row(((3, 1), (2, 1), (1, 1))), Draft(Row(((2, 1), (1, 2)))), "tie", 1, 2)
        draft = Draft(Row(((3, 1), (1, 3))))
        self.check_deed(Cannot, Row(((3, 1), (1, 1), (0, 2))), draft, "cut", 1, 1)

    def test_degrees_are_those_of_the_row_as_it_is_now(self):
        draft = six()
        self.check_deed(InvalidDegree, 3, draft, "cut", 3, 2)
        draft.tie(2, 2)
        draft.cut(3, 3)
        self.check_deed(InvalidDegree, 3, draft, "cut", 3, 2)
        draft.undo()
        self.assertIs(draft.cut(3, 2), False)
        self.check_deed(InvalidDegree, 3, draft, "tie", 3, 3)

    def test_the_first_error(self):
        draft = Draft(Row(((1, 2), (0, 1))))
        self.check_deed(InvalidDegree, 9, draft, "cut", 9, 8)
        self.check_deed(InvalidDegree, 8, draft, "cut", 0, 8)
        self.check_deed(InvalidDegree, 0, draft, "cut", 0, 0)
        self.check_deed(TooGreat, -1, draft, "cut", 1, 0)
        ten = Draft(Row(tuple((10 * degree, 100) for degree in range(9, -1, -1))))
        self.check_deed(TooGreat, -1, ten, "cut", 90, 0)
        stairs = Draft(Row(tuple((degree, 2) for degree in range(9, -1, -1))))
        self.check_deed(TooMany, 11, stairs, "tie", 9, 5)


class WrongValues(Errors, unittest.TestCase):
    def test_values_that_are_no_rows(self):
        for value in strange() + strange_tuples() + [3, (), nest().text, nest().kinds]:
            if isinstance(value, Row):
                continue
            self.check_error(NotRow, {"given": value}, Draft, value)
            self.check_error(NotRow, {"given": value}, Draft, row=value)

    def test_rows_that_cannot_be(self):
        for row in (Row.listed((3, 3, 1, 1)), Row.listed((2, 1)), Row(((1, 1),)), Row(((MOST, MANY), (0, 2)))):
            self.check_error(Cannot, {"given": row}, Draft, row)
            self.check_error(Cannot, {"given": row}, Draft, row=row)

    def test_wrong_degrees(self):
        draft = Draft(Row(((2, 2), (1, 2), (0, 2))))
        draft.cut(2, 2)
        before = seen_of(draft)
        for value in strange() + strange_tuples() + [(), 2, -1, 10 ** 90, "1", (1,)]:
            for call in (draft.tie, draft.cut):
                self.check_error(InvalidDegree, {"given": value}, call, value, 1)
                self.check_error(InvalidDegree, {"given": value}, call, 1, value)
                self.check_error(InvalidDegree, {"given": value}, call, mate=value, one=1)
                self.check_error(InvalidDegree, {"given": value}, call, mate=None, one=value)
        self.assertEqual(seen_of(draft), before)

    def test_nothing_to_undo(self):
        draft = six()
        self.check_error(NothingToUndo, {}, draft.undo)
        draft.tie(2, 2)
        draft.undo()
        self.check_error(NothingToUndo, {}, draft.undo)
        with draft.trial():
            self.check_error(NothingToUndo, {}, draft.undo)
        self.assertEqual(seen_of(draft), (Row(((2, 6),)), Row(((2, 6),)), (), 0))

    def test_equality_and_truth(self):
        row = nest()
        draft, other = Draft(row), Draft(row)
        self.assertIs(draft == other, False)
        self.assertIs(draft != other, True)
        same = draft
        self.assertIs(draft == same, True)
        self.assertIs(draft != same, False)
        for value in strange() + strange_tuples() + [3, (), row, draft.deeds, draft.trial(), Same()]:
            if isinstance(value, Odd):
                continue
            self.assertIs(draft == value, False)
            self.assertIs(draft != value, True)
        self.assertIs(draft == Odd(), False)
        self.assertIs(bool(draft), True)
        self.assertEqual(len(draft), 0)

    def test_properties_cannot_be_set(self):
        draft = six()
        for name in ("first", "row", "deeds"):
            with self.assertRaises(AttributeError):
                setattr(draft, name, 3)
        self.assertEqual(seen_of(draft), (Row(((2, 6),)), Row(((2, 6),)), (), 0))

    def test_defined_in_the_class(self):
        for name in ("tie", "cut", "undo", "first", "row", "deeds", "trial", "tried", "__len__", "__init__"):
            self.assertIn(name, vars(Draft))
        self.assertEqual(Draft.__module__, "degreerows.drafts")


if __name__ == "__main__":
    unittest.main()
