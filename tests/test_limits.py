import unittest

from arealots import limits


class LimitsTest(unittest.TestCase):
    def test_all_limits(self):
        told = {"MOST_BUTTONS": 5, "MOST_NUMBER": 1000000000000000000000000000000, "MOST_DEPTH": 5,
                "MOST_STEPS": 16, "MOST_DIRECT": 24, "MOST_CHANGES": 6}
        found = {name: value for name, value in vars(limits).items() if name.startswith("MOST_")}
        self.assertEqual(found, told)
        self.assertEqual([type(value) for value in found.values()], [int] * 6)


if __name__ == "__main__":
    unittest.main()
