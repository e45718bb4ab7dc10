import itertools
import unittest
from fractions import Fraction

from larderdays.rationals import added, common_divisor, divided, is_less

SOME = [(number, other) for number in range(-13, 14) for other in range(1, 13)]


def pair(fraction):
    return (fraction.numerator, fraction.denominator)


class CommonDivisorTest(unittest.TestCase):
    def test_ordinary(self):
        self.assertEqual(common_divisor(12, 18), 6)
        self.assertEqual(common_divisor(7, 5), 1)
        self.assertEqual(common_divisor(4, 4), 4)

    def test_nothing(self):
        self.assertEqual(common_divisor(0, 0), 0)
        self.assertEqual(common_divisor(0, 5), 5)
        self.assertEqual(common_divisor(5, 0), 5)

    def test_below_0(self):
        self.assertEqual(common_divisor(-12, 18), 6)
        self.assertEqual(common_divisor(12, -18), 6)
        self.assertEqual(common_divisor(-12, -18), 6)
        self.assertEqual(common_divisor(0, -5), 5)

    def test_large(self):
        self.assertEqual(common_divisor(6 * 10 ** 30, 9 * 10 ** 30), 3 * 10 ** 30)

    def test_against_its_words(self):
        for first, second in itertools.product(range(-12, 13), repeat=2):
            if (first, second) != (0, 0):
                both = [each for each in range(1, 13) if first % each == 0 and second % each == 0]
                self.assertEqual(common_divisor(first, second), max(both))


class DividedTest(unittest.TestCase):
    def test_ordinary(self):
        self.assertEqual(divided(3, 4), (3, 4))
        self.assertEqual(divided(6, 8), (3, 4))

    def test_whole_0_and_below_0(self):
        self.assertEqual(divided(8, 4), (2, 1))
        self.assertEqual(divided(0, 7), (0, 1))
        self.assertEqual(divided(-6, 8), (-3, 4))
        self.assertEqual(divided(-8, 4), (-2, 1))

    def test_against_fractions(self):
        for number, other in SOME:
            self.assertEqual(divided(number, other), pair(Fraction(number, other)))


class IsLessTest(unittest.TestCase):
    def test_ordinary(self):
        self.assertIs(is_less((1, 3), (1, 2)), True)
        self.assertIs(is_less((1, 2), (1, 3)), False)

    def test_the_same_is_not_less(self):
        for fraction in [(0, 1), (2, 3), (-2, 3), (4, 1)]:
            self.assertIs(is_less(fraction, fraction), False)

    def test_against_fractions(self):
        some = [divided(number, other) for number, other in SOME if other in (1, 2, 7)]
        for first, second in itertools.product(some, some):
            self.assertIs(is_less(first, second), Fraction(*first) < Fraction(*second))


class AddedTest(unittest.TestCase):
    def test_ordinary(self):
        self.assertEqual(added((1, 3), (1, 2)), (5, 6))
        self.assertEqual(added((1, 6), (1, 3)), (1, 2))

    def test_whole_0_and_below_0(self):
        self.assertEqual(added((1, 2), (1, 2)), (1, 1))
        self.assertEqual(added((1, 2), (-1, 2)), (0, 1))
        self.assertEqual(added((-1, 2), (1, 6)), (-1, 3))
        self.assertEqual(added((0, 1), (-3, 4)), (-3, 4))

    def test_against_fractions(self):
        some = [divided(number, other) for number, other in SOME if other in (1, 4, 6)]
        for first, second in itertools.product(some, some):
            self.assertEqual(added(first, second), pair(Fraction(*first) + Fraction(*second)))


if __name__ == "__main__":
    unittest.main()
