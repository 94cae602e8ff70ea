import unittest

from degreerows import errors
from tests.helpers import strange, strange_tuples

BASES = {"WrongValue": ValueError, "WrongName": LookupError, "NotPossible": ArithmeticError}
TOLD = {
    "WrongValue": {
        "given": (
            "InvalidText", "InvalidName", "InvalidDegree", "InvalidNumber", "InvalidPiece", "InvalidWeb", "InvalidWish",
            "InvalidIndex", "NotRow", "NotSides",
        ),
        "index": (
            "InvalidKinds", "InvalidDegrees", "InvalidInner", "InvalidOuter", "InvalidChanges", "InvalidWishes",
        ),
    },
    "WrongName": {"given": ("UnknownName",), "index": ("InUse",)},
    "NotPossible": {"given": ("Cannot", "TooMany", "TooGreat"), "index": ("Broken",), None: ("NothingToUndo",)},
}


def listed_classes():
    return [
        (base, attribute, name)
        for base, parts in TOLD.items()
        for attribute, names in parts.items()
        for name in names
    ]


class TheErrors(unittest.TestCase):
    def test_the_bases_are_errors_of_python(self):
        for name, base in BASES.items():
            self.assertEqual(getattr(errors, name).__bases__, (base,))
            with self.assertRaises(base):
                raise getattr(errors, name)()

    def test_each_class_stands_right_under_its_base(self):
        for base, _, name in listed_classes():
            self.assertEqual(getattr(errors, name).__bases__, (getattr(errors, base),), name)
            self.assertEqual(getattr(errors, name).__module__, "degreerows.errors")
            self.assertEqual(getattr(errors, name).__name__, name)

    def test_each_class_is_one_of_its_own(self):
        names = [name for _, _, name in listed_classes()]
        self.assertEqual(len({getattr(errors, name) for name in names}), 23)

    def test_the_attribute_is_what_was_passed_whatever_it_is(self):
        for _, attribute, name in listed_classes():
            if attribute is None:
                continue
            make = getattr(errors, name)
            for value in strange() + strange_tuples() + [3, -1, 10 ** 40]:
                self.assertIs(getattr(make(value), attribute), value)
                self.assertIs(getattr(make(**{attribute: value}), attribute), value)

    def test_attributes_are_needed_and_no_others_are_taken(self):
        for _, attribute, name in listed_classes():
            make = getattr(errors, name)
            if attribute is None:
                self.assertEqual(vars(make()), {})
                continue
            self.assertEqual(list(vars(make(1))), [attribute])
            for parts in ((), (1, 2)):
                with self.assertRaises(TypeError):
                    make(*parts)
            with self.assertRaises(TypeError):
                make(**{"given" if attribute == "index" else "index": 1})

    def test_two_errors_are_not_equal_and_errors_are_true(self):
        self.assertNotEqual(errors.Cannot(1), errors.Cannot(1))
        self.assertTrue(errors.Cannot(None))
        self.assertTrue(errors.NothingToUndo())

    def test_they_can_be_raised_and_caught_by_the_base(self):
        for base, attribute, name in listed_classes():
            made = getattr(errors, name)() if attribute is None else getattr(errors, name)(**{attribute: 4})
            with self.assertRaises(getattr(errors, base)) as seen:
                raise made
            self.assertIs(seen.exception, made)


if __name__ == "__main__":
    unittest.main()
