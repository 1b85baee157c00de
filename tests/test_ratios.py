"""Points 5 and 6, and the interface of fleuron/ratios.py."""

import random
import unittest
from fractions import Fraction
from math import floor, gcd

from fleuron.errors import ZeroDivisor
from fleuron.ratios import add, compare, divide, down, multiply, nearest, ratio, subtract

BIG = 10 ** 12
HUGE = 10 ** 60


def pairs_of_integers():
    """Return pairs of small and large integers of either sign, the second one not 0."""
    source = random.Random(5)
    pairs = [(p, q) for p in range(-6, 7) for q in range(-6, 7) if q != 0]
    for limit in (BIG, HUGE):
        for _ in range(40):
            factor = source.randint(1, 1000)
            p = source.randint(-limit, limit) * factor
            q = (source.randint(1, limit)) * factor * source.choice((-1, 1))
            pairs.append((p, q))
    return pairs + [(BIG, -BIG), (HUGE, HUGE - 1), (-HUGE, 2), (2, -HUGE), (HUGE, HUGE), (0, -HUGE)]


class RatiosTest(unittest.TestCase):
    def assert_is(self, result, expected):
        """The result is a fraction in lowest terms, and the number that is expected."""
        self.assertIs(type(result), tuple)
        p, q = result
        self.assertGreater(q, 0)
        self.assertEqual(gcd(p, q), 1)
        self.assertEqual(Fraction(p, q), expected)

    def test_the_examples_of_the_interface(self):
        self.assertEqual(ratio(4, -6), (-2, 3))
        self.assertEqual(add((1, 2), (1, 3)), (5, 6))
        self.assertEqual(divide((1, 2), (3, 1)), (1, 6))
        self.assertEqual((nearest((1, 2)), nearest((-1, 2)), nearest((-3, 5)), down((-3, 5))), (1, 0, -1, -1))

    def test_ratio_is_in_lowest_terms(self):
        for p, q in pairs_of_integers():
            self.assert_is(ratio(p, q), Fraction(p, q))

    def test_ratio_of_one_number(self):
        self.assertEqual(ratio(7), (7, 1))
        self.assertEqual(ratio(-HUGE), (-HUGE, 1))
        self.assertEqual(ratio(0), (0, 1))
        self.assertEqual(ratio(0, -5), (0, 1))

    def test_ratio_with_a_second_number_of_0(self):
        for p in (0, 1, -1, HUGE):
            with self.assertRaises(ZeroDivisor):
                ratio(p, 0)

    def test_the_four_operations(self):
        fractions = [ratio(p, q) for p, q in pairs_of_integers()]
        for k in range(len(fractions)):
            a, b = fractions[k], fractions[(k * 17 + 5) % len(fractions)]
            left, right = Fraction(*a), Fraction(*b)
            self.assert_is(add(a, b), left + right)
            self.assert_is(subtract(a, b), left - right)
            self.assert_is(multiply(a, b), left * right)
            if right != 0:
                self.assert_is(divide(a, b), left / right)

    def test_divide_by_a_negative_fraction(self):
        self.assertEqual(divide((1, 2), (-3, 4)), (-2, 3))
        self.assertEqual(divide((0, 1), (-3, 4)), (0, 1))

    def test_divide_by_0(self):
        for a in ((0, 1), (1, 2), (-HUGE, 1)):
            with self.assertRaises(ZeroDivisor):
                divide(a, (0, 1))

    def test_compare(self):
        fractions = [ratio(p, q) for p, q in pairs_of_integers()]
        for k in range(len(fractions)):
            for a, b in ((fractions[k], fractions[(k * 7 + 1) % len(fractions)]), (fractions[k], fractions[k])):
                left, right = Fraction(*a), Fraction(*b)
                self.assertEqual(compare(a, b), (left > right) - (left < right))
        self.assertEqual(compare((HUGE, HUGE + 1), (HUGE + 1, HUGE + 2)), -1)
        self.assertEqual(compare((-1, 2), (-1, 3)), -1)
        self.assertEqual(compare((1, 2), (1, 3)), 1)

    def test_down(self):
        for p, q in pairs_of_integers():
            self.assertEqual(down(ratio(p, q)), floor(Fraction(p, q)))
        self.assertEqual([down((n, 2)) for n in (-3, -1, 1, 3)], [-2, -1, 0, 1])

    def test_nearest(self):
        for p, q in pairs_of_integers():
            self.assertEqual(nearest(ratio(p, q)), floor(Fraction(p, q) + Fraction(1, 2)))

    def test_nearest_of_halves_is_the_greater_integer(self):
        self.assertEqual([nearest((n, 2)) for n in (-5, -3, -1, 1, 3, 5)], [-2, -1, 0, 1, 2, 3])
        self.assertEqual(nearest((2 * HUGE + 1, 2)), HUGE + 1)
        self.assertEqual(nearest((-2 * HUGE - 1, 2)), -HUGE)

    def test_nearest_beside_halves(self):
        self.assertEqual(nearest((499, 1000)), 0)
        self.assertEqual(nearest((501, 1000)), 1)
        self.assertEqual(nearest((-499, 1000)), 0)
        self.assertEqual(nearest((-501, 1000)), -1)


if __name__ == "__main__":
    unittest.main()
