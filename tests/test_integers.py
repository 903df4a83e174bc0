import itertools
import unittest
from math import gcd

from arealots.integers import combination, divisor_with_factors, integer_text, is_integer, net, read_integer, times_of
from tests.helper import NO_INTEGERS

FORTY = 1234567890123456789012345678901234567890


class IntegersTest(unittest.TestCase):
    def test_what_is_an_integer(self):
        for value in (0, 1, -1, 10 ** 30, -FORTY):
            self.assertIs(is_integer(value), True)
        for value in NO_INTEGERS:
            self.assertIs(is_integer(value), False)

    def test_texts(self):
        numbers = [sign * (10 ** power + more) for sign in (1, -1) for power in (0, 1, 30, 63, 64, 65, 127, 128, 129)
                   for more in (-1, 0, 1)]
        for number in numbers + [FORTY, 10 ** 64 * FORTY]:
            self.assertEqual(integer_text(number), str(number))
            self.assertEqual(read_integer(str(number)), number)

    def test_no_texts(self):
        for text in ("", "-", "--1", "+1", "-0", "00", "01", "-01", " 1", "1 ", "1_0", "1.0", "a", "\u0661", "1-"):
            self.assertIsNone(read_integer(text))

    def test_divisors_with_factors(self):
        pairs = [(first, second) for first in range(-12, 13) for second in range(-12, 13)]
        for first, second in pairs + [(FORTY, 10 ** 30), (-FORTY, 6 * FORTY), (0, -FORTY)]:
            divisor, p, q = divisor_with_factors(first, second)
            self.assertEqual(divisor, gcd(first, second))
            self.assertEqual(p * first + q * second, divisor)

    def test_times(self):
        for divisor in range(-7, 8):
            for times in range(-9, 10):
                self.assertEqual(times_of(times * divisor, divisor), times if divisor else 0)
                for more in range(1, abs(divisor) or 2):
                    self.assertIsNone(times_of(times * divisor + more, divisor))
        self.assertEqual((times_of(FORTY * 10 ** 30, FORTY), times_of(FORTY + 1, 0)), (10 ** 30, None))


def summed(vectors, factors, width):
    """What the vectors come to, each so many times."""
    return [sum(factor * vector[place] for vector, factor in zip(vectors, factors)) for place in range(width)]


class NetTest(unittest.TestCase):
    def is_net_of(self, vectors, width):
        pivots, relations = net(vectors, width)
        self.assertEqual(len(pivots), width)
        for place, pivot in enumerate(pivots):
            if pivot is not None:
                self.assertEqual(pivot[:place], [0] * place)
                self.assertGreater(pivot[place], 0)
                self.assertEqual(summed(vectors, pivot[width:], width), pivot[:width])
        for factors in relations:
            self.assertEqual(summed(vectors, factors, width), [0] * width)
        self.assertEqual(len(relations) + sum(pivot is not None for pivot in pivots), len(vectors))
        # All vectors come of the rows: so nothing is lost, and all factors with sum 0 are sums of the relations.
        rows = [pivot[width:] for pivot in pivots if pivot is not None] + relations
        for index in range(len(vectors)):
            unit = [int(place == index) for place in range(len(vectors))]
            self.assertEqual(summed(rows, combination(rows, unit), len(vectors)), unit)
        return pivots

    def test_all_small_vectors(self):
        small = list(itertools.product((-4, 0, 3), (-2, 0, 6)))
        for many in range(4):
            for vectors in itertools.product(small, repeat=many):
                pivots = self.is_net_of(list(vectors), 2)
                ahead = gcd(*[vector[0] for vector in vectors])
                self.assertEqual(0 if pivots[0] is None else pivots[0][0], ahead)

    def test_many_figures(self):
        vectors = [(10 ** 30 - 1, 7 ** 35), (2 ** 99, -10 ** 30), (-3 ** 62, 5 ** 42), (FORTY, 2), (6 ** 38, -11 ** 28)]
        for many in range(6):
            self.is_net_of(vectors[:many], 2)
            self.is_net_of([vector[:1] for vector in vectors[:many]], 1)

    def test_no_vectors(self):
        self.assertEqual(net([], 2), ([None, None], []))
        self.assertEqual(combination([], (0, 0)), [])
        self.assertIsNone(combination([], (0, 1)))

    def test_combinations(self):
        for vectors in itertools.product(itertools.product((-4, 0, 3), (0, 6)), repeat=2):
            reached = {tuple(summed(vectors, factors, 2)) for factors in itertools.product(range(-25, 26), repeat=2)}
            for target in itertools.product(range(-6, 7), range(-6, 7)):
                found = combination(list(vectors), target)
                self.assertIs(found is not None, target in reached)
                if found is not None:
                    self.assertEqual(summed(vectors, found, 2), list(target))


if __name__ == "__main__":
    unittest.main()
