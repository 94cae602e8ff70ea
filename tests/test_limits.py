import unittest

from degreerows import limits


class Limits(unittest.TestCase):
    def test_all_limits(self):
        told = {
            "MOST_KINDS": 10, "MOST_DEGREE": 10 ** 31, "MOST_COUNT": 10 ** 30, "MOST_PLACES": 10,
            "MOST_COUNTED": 7, "MOST_NEAR": 8, "MOST_CHANGES": 6,
        }
        for name, worth in told.items():
            self.assertIs(type(getattr(limits, name)), int)
            self.assertEqual(getattr(limits, name), worth)


if __name__ == "__main__":
    unittest.main()
