"""Kinds in general, where rows do not ask for it: within kinds, and beyond the limits of rows."""

import unittest

from degreerows.kinds import merged_kinds, split_kinds


class Kinds(unittest.TestCase):
    def test_split(self):
        kinds = ((5, 3), (2, 4), (0, 1))
        for number, greatest, others in (
            (0, (), kinds), (2, ((5, 2),), ((5, 1), (2, 4), (0, 1))), (3, ((5, 3),), ((2, 4), (0, 1))),
            (6, ((5, 3), (2, 3)), ((2, 1), (0, 1))), (8, kinds, ()),
        ):
            self.assertEqual(split_kinds(kinds, number), (greatest, others))

    def test_merged(self):
        self.assertEqual(merged_kinds([((5, 3), (2, 4)), (), ((7, 1), (5, 2))]), ((7, 1), (5, 5), (2, 4)))
        many = 10 ** 30
        self.assertEqual(merged_kinds([((2, many),), ((2, many),)]), ((2, 2 * many),))


if __name__ == "__main__":
    unittest.main()
