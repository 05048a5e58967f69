import unittest
from itertools import product

from fewqubits.exact import is_below, squared_sizes
from tests.plain import bounds, number, size_squared


class ExactNumbersTest(unittest.TestCase):
    def test_squared_sizes(self):
        numbers = list(product(range(-2, 3), repeat=4))
        self.assertEqual(squared_sizes(numbers), [size_squared(number(*parts)) for parts in numbers])

    def test_is_below_near_zero(self):
        for whole, x, y in product(range(-6, 7), repeat=3):
            low, high = bounds(x - whole, y)
            self.assertTrue(low > 0 or high <= 0)
            self.assertEqual(is_below(whole, x, y), low > 0, (whole, x, y))

    def test_is_below_without_rounding(self):
        # p / q goes to the root of 2 from both sides by turns, as near as whole numbers come.
        p, q = 1, 1
        for step in range(200):
            short = p * p - 2 * q * q == -1
            self.assertEqual(p * p - 2 * q * q, -1 if short else 1)
            self.assertEqual(is_below(p, 0, q), short, step)
            self.assertEqual(is_below(0, -p, q), short, step)
            self.assertEqual(is_below(-p, 0, -q), not short, step)
            self.assertEqual(is_below(0, p, -q), not short, step)
            p, q = p + 2 * q, p + q


if __name__ == "__main__":
    unittest.main()
