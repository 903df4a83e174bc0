import unittest
from math import gcd

from arealots.integers import divisor_with_factors, integer_text, is_integer, read_integer
from tests.helper import NO_INTEGERS

FORTY = 1234567890123456789012345678901234567890


class IntegersTest(unittest.TestCase):
    def test_what_is_an_integer(self):
        for value in (0, 1, -1, 10 ** 30, -FORTY):
            self.assertIs(is_integer(value), True)
        for value in NO_INTEGERS:
            self.assertIs(is_integer(value), False)

    def test_texts(self):
        numbers = [sign * (10 ** power + more) for sign in (1, -1) for power in (0, 1, 30, 63, 64, 65, 127, 128, 129)
                   for more in (-1, 0, 1)]
        for number in numbers + [FORTY, 10 ** 64 * FORTY]:
            self.assertEqual(integer_text(number), str(number))
            self.assertEqual(read_integer(str(number)), number)

    def test_no_texts(self):
        for text in ("", "-", "--1", "+1", "-0", "00", "01", "-01", " 1", "1 ", "1_0", "1.0", "a", "\u0661", "1-"):
            self.assertIsNone(read_integer(text))

    def test_divisors_with_factors(self):
        pairs = [(first, second) for first in range(-12, 13) for second in range(-12, 13)]
        for first, second in pairs + [(FORTY, 10 ** 30), (-FORTY, 6 * FORTY), (0, -FORTY)]:
            divisor, p, q = divisor_with_factors(first, second)
            self.assertEqual(divisor, gcd(first, second))
            self.assertEqual(p * first + q * second, divisor)


if __name__ == "__main__":
    unittest.main()
