import random
import unittest

from degreerows.certain import bond
from degreerows.consoles import Console
from degreerows.judging import can_be
from degreerows.parting import pieces
from degreerows.rows import Row
from degreerows.single import has_one_web
from tests.helpers import Odd, Same, nest, strange, strange_tuples

MOST = 10 ** 31
MANY = 10 ** 30


def line_of(row):
    """The kinds as a line of a console has them."""
    return ", ".join(row.text.split("\n")[1:])


def filled(**rows):
    console = Console()
    for name, row in rows.items():
        if console.do(f"row {name} {line_of(row)}") != "put":
            raise AssertionError(name)
    return console


def answer_by_functions(row, words):
    """What the functions tell of a row under a name; the line is right."""
    if words[0] == "can":
        return "yes" if can_be(row) else "no"
    if not can_be(row):
        return "no web"
    if words[0] == "one":
        return "one web" if has_one_web(row) else "several webs"
    if words[0] == "pieces":
        return " ".join(piece[0] for piece in pieces(row))
    one, mate = [int(word) for word in words[2:]]
    if row.count(one) < 1 + (one == mate) or row.count(mate) < 1:
        return "no such places"
    return bond(row, one, mate)


class Model:
    """A plain console: all that was put, as it was behind each putting and dropping."""

    def __init__(self):
        self.past = [{}]

    def do(self, line):
        words = line.split(" ")
        rows = self.past[-1]
        if words[0] == "undo":
            if len(self.past) == 1:
                return "nothing"
            self.past.pop()
            return "undone"
        if words[0] == "row":
            kinds = " ".join(words[2:]).split(", ")
            self.past.append({**rows, words[1]: Row.read("\n".join(["row"] + kinds))})
            return "put"
        if words[1] not in rows:
            return "no such row"
        if words[0] == "drop":
            self.past.append({name: row for name, row in rows.items() if name != words[1]})
            return "dropped"
        return answer_by_functions(rows[words[1]], words)


class Lines(unittest.TestCase):
    def check(self, console, *told):
        for line, answer in told:
            found = console.do(line)
            self.assertIs(type(found), str)
            self.assertEqual(found, answer, line)

    def check_untouched(self, console, answer, *lines):
        """The lines have this answer, and then nothing is changed, also not what can be taken back."""
        names = console.names
        for line in lines:
            self.assertEqual(console.do(line), answer, repr(line))
            self.assertEqual(console.names, names)
        self.assertEqual(console.do("undo"), "undone" if names else "nothing")
        self.assertEqual(len(console.names), max(len(names) - 1, 0))


class Drawn(Lines):
    def test_drawn_lines_beside_a_plain_model(self):
        chance = random.Random(61)
        seen = {}
        for _ in range(250):
            console, model = Console(), Model()
            for _ in range(60):
                line = self.some_line(chance)
                told = console.do(line)
                self.assertEqual(told, model.do(line), line)
                self.assertEqual(console.names, tuple(sorted(model.past[-1])))
                seen[told] = seen.get(told, 0) + 1
        for told in (
            "put", "dropped", "undone", "nothing", "yes", "no", "one web", "several webs", "no web", "no such row",
            "no such places", "tied", "apart", "open", "rest", "alone rest",
        ):
            self.assertGreater(seen.get(told, 0), 8, told)

    def some_line(self, chance):
        name = chance.choice(["a", "b", "c2", "abcdefgh"])
        word = chance.choice(["row", "row", "row", "drop", "can", "one", "pieces", "bond", "bond", "undo"])
        if word == "undo":
            return word
        if word == "row":
            degrees = sorted(chance.sample(range(5), chance.randint(1, 3)), reverse=True)
            return f"row {name} " + ", ".join(f"{degree} x {chance.randint(1, 5)}" for degree in degrees)
        if word == "bond":
            return f"bond {name} {chance.randint(0, 4)} {chance.randint(0, 4)}"
        return f"{word} {name}"

    def test_answers_are_those_of_the_functions(self):
        d = 10 ** 27
        for row in (
            nest(), Row(((2, 6),)), Row(((3, 2), (1, 2))), Row(((0, 1),)), Row(((MANY, 1), (1, MANY))),
            Row(((3 * d, d), (2 * d, 2 * d), (1, d))), Row(((MOST, MANY), (0, 3))),
            Row(((6, 2), (4, 2), (3, 2), (1, 2))),
            Row(tuple((10 * degree, 100) for degree in range(10, 0, -1))), Row(((3, 2), (2, 2), (0, 5))),
        ):
            console = filled(n=row)
            for word in ("can", "one", "pieces"):
                self.check(console, (f"{word} n", answer_by_functions(row, [word, "n"])))
            degrees = [degree for degree, _ in row.kinds] + [0, 1, 9]
            for words in [["bond", "n", str(one), str(mate)] for one in degrees for mate in degrees]:
                self.check(console, (" ".join(words), answer_by_functions(row, words)))


class Rows(Lines):
    def test_lines_of_the_document(self):
        self.check(
            Console(), ("row n 7 x 2, 4 x 5, 1 x 2", "put"), ("one n", "one web"), ("pieces n", "halves rest"),
            ("bond n 7 1", "open"), ("bond n 7 3", "no such places"), ("row k 2 x 6", "put"),
            ("one k", "several webs"), ("can k", "yes"), ("undo", "undone"), ("can k", "no such row"),
            ("row k 3 x 1", "put"), ("pieces k", "no web"), ("bond n 07 1", "no such line"), ("row K 1 x 2", "no name"),
        )

    def test_names(self):
        for name in ("a", "z", "a1", "abcdefgh", "z9876543", "row", "undo", "x", "can", "m0"):
            console = Console()
            self.check(console, (f"row {name} 1 x 2", "put"), (f"can {name}", "yes"))
            self.assertEqual(console.names, (name,))
            self.check(console, (f"drop {name}", "dropped"), (f"can {name}", "no such row"))
        console = Console()
        self.check_untouched(
            console, "no name", "row abcdefghi 1 x 2", "row 1a 1 x 2", "row A 1 x 2", "row aB 1 x 2", "row a_b 1 x 2",
            "row a- 1 x 2", "row 7 1 x 2", "row a\n 1 x 2", "row \na 1 x 2", "row a, 1 x 2", "row ~ 1 x 2",
            "row \n 1 x 2", "row a.b 1 x 2", "row ab\ncd 1 x 2", "row aaaaaaaaa 1 x 2", "row -a 1 x 2",
        )

    def test_names_are_looked_at_ahead_of_rows(self):
        self.check_untouched(filled(a=nest()), "no name", "row A x", "row 1 , ", "row abcdefghi 7 x 0", "row B  ")

    def test_kinds_that_make_no_row(self):
        self.check_untouched(
            filled(n=nest()), "no row", "row n x", "row n 7", "row n 7 x", "row n 7 x 0", "row n 07 x 2",
            "row n 7 x 02",
            "row n 7 x 2,4 x 5", "row n 7 x 2, 4 x 5,", "row n 7 x 2, 4 x 5, ", "row n , 7 x 2", "row n 7 x 2,  4 x 5",
            "row n 7 x 2 , 4 x 5", "row n  7 x 2", "row n 7  x 2", "row n 7 x  2", "row n 7 x 2 ", "row n   ",
            "row n  ",
            "row n 4 x 5, 7 x 2", "row n 4 x 5, 4 x 5", "row n 7 x 2\n4 x 5", "row n 7 x 2, 4 x 5\n", "row n \n7 x 2",
            "row n 7 x 2,\n4 x 5", "row n 7 x 2\n, 4 x 5", "row n row", "row n -1 x 2", "row n +7 x 2", "row n 7 X 2",
            "row n 7x2", "row n 7 y 2", "row n 1_0 x 2", f"row n {MOST + 1} x 1", f"row n 1 x {MANY + 1}",
            f"row n {10 ** 99} x 1", f"row n 1 x {10 ** 99}", "row n None", "row n ()", "row n 7 x 2 4 x 5", "row n ,",
            "row n " + ", ".join(f"{degree} x 1" for degree in range(10, -1, -1)), "row n 7 x 2, ", "row n 7 x 2;4 x 5",
        )

    def test_rows_at_the_limits(self):
        console = Console()
        ten = tuple((degree, 1) for degree in range(9, -1, -1))
        for at, row in enumerate((Row(ten), Row(((MOST, MANY),)), Row(((0, 1),)), Row(((1, MANY), (0, MANY))))):
            self.check(console, (f"row r{at} {line_of(row)}", "put"))
            self.check(console, (f"can r{at}", "yes" if can_be(row) else "no"))

    def test_rows_in_the_place_of_others(self):
        console = Console()
        self.check(
            console, ("row n 2 x 6", "put"), ("one n", "several webs"), ("row n 2 x 5", "put"), ("one n", "one web"),
            ("row n 2 x 5", "put"), ("row n 3 x 1", "put"), ("one n", "no web"), ("row n 3", "no row"),
            ("undo", "undone"), ("one n", "one web"), ("undo", "undone"), ("one n", "one web"), ("undo", "undone"),
            ("one n", "several webs"), ("undo", "undone"), ("one n", "no such row"), ("undo", "nothing"),
            ("undo", "nothing"),
        )
        self.assertEqual(console.names, ())

    def test_dropping_and_taking_back(self):
        console = filled(b=nest(), a=Row(((2, 6),)))
        self.assertEqual(console.names, ("a", "b"))
        self.check(console, ("drop b", "dropped"), ("drop b", "no such row"), ("can b", "no such row"))
        self.assertEqual(console.names, ("a",))
        self.check(console, ("undo", "undone"), ("one b", "one web"), ("drop a", "dropped"), ("row a 1 x 2", "put"))
        self.check(console, ("bond a 1 1", "tied"), ("undo", "undone"), ("can a", "no such row"), ("undo", "undone"))
        self.check(console, ("one a", "several webs"), ("undo", "undone"), ("undo", "undone"), ("undo", "nothing"))

    def test_questions_and_wrong_lines_are_not_taken_back(self):
        console = filled(n=nest())
        self.check(
            console, ("can n", "yes"), ("one n", "one web"), ("bond n 7 7", "tied"), ("x", "no such line"),
            ("drop k", "no such row"), ("row K 1 x 2", "no name"), ("row k 1", "no row"), ("undo", "undone"),
            ("can n", "no such row"), ("undo", "nothing"),
        )


class Wrong(Lines):
    def test_no_such_lines(self):
        self.check_untouched(
            filled(n=nest()), "no such line", "", " ", "x", "row", "row ", "row n", "row n ", "row  n 1 x 2",
            " row n 1 x 2",
            "Row n 1 x 2", "row  ", "drop", "drop ", "drop  n", "drop n ", " drop n", "drop n k", "can", "can ",
            "can  n",
            "can n ", "can n n", "can\nn", "CAN n", "one", "one ", "one  n", "one n ", "one n 1", "pieces", "pieces ",
            "pieces  n", "pieces n ", "piece n", "undo ", " undo", "undo n", "undo\n", "Undo", "\nundo", "undoundo",
            "cannot n", "names", "\n", "\ncan n", "can,n", "rows n 1 x 2", "row\nn 1 x 2", "tied n 7 7", "one\n n",
            "None", "can n" + " ", "  can n", "bond", "undo undo",
        )

    def test_no_such_lines_of_bond(self):
        numbers = ("07", "00", "-1", "+1", "1.0", "x", "7,", "1_0", "\n7", "7\n", "0x7", "1e1", "00000", "None", "~")
        lines = [f"bond n {number} 7" for number in numbers] + [f"bond n 7 {number}" for number in numbers]
        # Ahead of all others.
        lines += [f"bond k {number} {number}" for number in numbers] + [f"bond bad 3 {number}" for number in numbers]
        lines += [
            "bond n", "bond n 7", "bond n 7 ", "bond n  7", "bond n 7  4", "bond n 7 4 ", "bond  n 7 4", "bond  7 4",
            "bond n 7 4 1", " bond n 7 4", "bond n\n7 4", "bond k 7", "Bond n 7 4", "bond n 7 4\n",
        ]
        console = filled(bad=Row(((3, 2), (1, 2))), n=nest())
        for line in lines:
            self.check(console, (line, "no such line"))
        self.assertEqual(console.names, ("bad", "n"))

    def test_no_such_rows(self):
        console = filled(n=nest(), bad=Row(((3, 2), (1, 2))))
        for name in ("k", "N", "nn", "n\n", "\nn", "n,", "abcdefghi", "1", "~", "None", "()", "bad2", "\n"):
            self.check(console, *[(f"{word} {name}", "no such row") for word in ("drop", "can", "one", "pieces")])
            self.check(console, (f"bond {name} 7 4", "no such row"), (f"bond {name} 3 5", "no such row"))
        self.assertEqual(console.names, ("bad", "n"))

    def test_no_web_ahead_of_no_such_places(self):
        console = filled(bad=Row(((3, 2), (1, 2))), odd=Row(((3, 1),)))
        for name in ("bad", "odd"):
            self.check(
                console, (f"can {name}", "no"), (f"one {name}", "no web"), (f"pieces {name}", "no web"),
                (f"bond {name} 3 1", "no web"), (f"bond {name} 3 9", "no web"), (f"bond {name} 5 5", "no web"),
                (f"bond {name} 3 3", "no web"),
            )

    def test_no_such_places(self):
        row = Row(((3, 1), (2, 2), (1, 1), (0, 1)))
        self.check(
            filled(n=row), ("bond n 3 3", "no such places"), ("bond n 2 2", "tied"), ("bond n 0 0", "no such places"),
            ("bond n 0 2", "apart"), ("bond n 4 3", "no such places"), ("bond n 3 4", "no such places"),
            ("bond n 1 1", "no such places"), ("bond n 1 2", "apart"), ("bond n 2 1", "apart"), ("bond n 3 1", "tied"),
        )

    def test_numbers_of_any_size(self):
        great = filled(g=Row(((MANY, 1), (1, MANY))))
        self.check(great, (f"bond g {MANY} 1", "tied"), (f"bond g 1 {MANY}", "tied"), ("bond g 1 1", "apart"))
        self.check(great, (f"bond g {MANY} {MANY}", "no such places"), (f"bond g {MANY + 1} 1", "no such places"))
        for number in (MOST, MOST + 1, 10 ** 26, 10 ** 60, 10 ** 99):
            self.check(great, (f"bond g {number} 1", "no such places"), (f"bond g 1 {number}", "no such places"))
        for many in (100, 1000, 3900):
            digits = "9" * many
            self.check(
                great, (f"bond g {digits} 1", "no such places"), (f"bond g 0{digits} 1", "no such line"),
                (f"row g {digits} x 1", "no row"), (f"bond k {digits} 1", "no such row"),
                ("can " + digits, "no such row"),
            )

    def test_by_name(self):
        console = Console()
        self.assertEqual(console.do(line="row n 1 x 2"), "put")
        self.assertEqual(console.do(line="can n"), "yes")


class TheClass(unittest.TestCase):
    def test_consoles_are_of_their_own(self):
        console, other = Console(), Console()
        console.do("row n 1 x 2")
        self.assertEqual((console.names, other.names), (("n",), ()))
        self.assertEqual(other.do("can n"), "no such row")
        self.assertEqual(other.do("undo"), "nothing")

    def test_names_are_ascending(self):
        console = Console()
        for name in ("b", "a", "z9", "ab", "a1", "z", "aa"):
            console.do(f"row {name} 1 x 2")
        self.assertEqual(console.names, ("a", "a1", "aa", "ab", "b", "z", "z9"))
        self.assertIs(type(console.names), tuple)

    def test_equality_and_truth(self):
        console, other = Console(), Console()
        self.assertIs(console == other, False)
        self.assertIs(console != other, True)
        same = console
        self.assertIs(console == same, True)
        self.assertIs(console != same, False)
        for value in strange() + strange_tuples() + [3, (), Odd(), Same()]:
            self.assertIs(console == value, False)
            self.assertIs(console != value, True)
        self.assertIs(bool(console), True)

    def test_defined_in_the_class(self):
        for name in ("do", "names", "__init__"):
            self.assertIn(name, vars(Console))
        self.assertEqual(Console.__module__, "degreerows.consoles")
        with self.assertRaises(AttributeError):
            Console().names = ("a",)


if __name__ == "__main__":
    unittest.main()
