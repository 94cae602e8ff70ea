"""What several tests need: values of any kind, and a look at errors."""

from degreerows import errors
from degreerows.consoles import Console
from degreerows.drafts import Draft
from degreerows.libraries import Library
from degreerows.rows import Row
from degreerows.sides import Sides


class Odd:
    """A value that answers comparisons with an error, as some values from outside do."""

    def __eq__(self, other):
        raise AssertionError("compared")

    def __bool__(self):
        raise AssertionError("tested")


class Same:
    """A value that says of itself that it equals everything."""

    def __eq__(self, other):
        return True


NEST_TEXT = "row\n7 x 2\n4 x 5\n1 x 2"


def nest():
    return Row.read(NEST_TEXT)


def path():
    """The sides of a web of four places, one behind another."""
    return Sides(((1, 2),), ((1, 2),))


def strange():
    """Values of any kind; none of them is an integer, a filled tuple that is right somewhere, or the text of a row."""
    return [
        None, True, False, "", "x", "row", "7", "7 x 2", "row\n", b"row\n7 x 2", [], [(7, 2)], [7, 4], ["1 x 2", ""],
        {}, {7: 2}, {7, 4}, frozenset([7]), object(), Odd(), Row, nest, nest(), range(3), iter([1]), 1j, len,
        errors.Cannot(3), errors.InvalidKinds, NotImplemented, ..., path(), Sides, Same(), Draft(nest()), Console(),
        Library(), Draft(nest()).trial(), Library().trial(), Library,
    ]


def strange_tuples():
    """Tuples of any kind; none of them is right anywhere."""
    return [
        (None,), (True,), ("x",), ((),), (((),),), ((1,),), ((1, 2, 3),), ([1, 2],), (nest(),), (Odd(),), ((Odd(), 1),),
        (Same(),), ((Same(), Same()),), (Library(), Draft(nest())),
    ]


class Errors:
    """For test cases that look at errors."""

    def check_error(self, error, told, call, *parts, **more):
        """The call raises just this error, and its one attribute is what is told; errors without one tell ()."""
        with self.assertRaises(error) as seen:
            call(*parts, **more)
        self.assertIs(type(seen.exception), error)
        self.assertEqual(len(vars(seen.exception)), len(told))
        for name, worth in told.items():
            found = getattr(seen.exception, name)
            if isinstance(worth, (int, str, tuple, type(None))):
                self.assertIs(type(found), type(worth))
            if found is not worth:
                self.assertEqual(found, worth)
