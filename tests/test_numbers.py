import unittest
from fractions import Fraction
from math import gcd, lcm

from laidover.numbers import common_divisor, common_multiple, is_whole, rising, share
from tests.samples import NO_WHOLE_NUMBERS

SOME = [0, 1, -1, 2, -2, 6, 9, -12, 35, 10 ** 30, -(6 ** 40)]


class TestNumbers(unittest.TestCase):
    def test_whole_numbers(self):
        for number in SOME:
            self.assertIs(is_whole(number), True)

    def test_no_whole_numbers(self):
        for at, thing in enumerate(NO_WHOLE_NUMBERS):
            with self.subTest(at=at):
                self.assertIs(is_whole(thing), False)

    def test_common_divisor(self):
        for one in SOME:
            for other in SOME:
                self.assertEqual(common_divisor(one, other), gcd(one, other))

    def test_share_in_lowest_terms(self):
        for top in SOME:
            for below in (1, 2, 6, 9, 35, 10 ** 30):
                told = Fraction(top, below)
                self.assertEqual(share(top, below), (told.numerator, told.denominator))

    def test_common_multiple(self):
        for numbers in ([], [1], [7], [4, 6], [6, 4, 10], [35, 10 ** 30, 6 ** 40], [9, 9, 3]):
            self.assertEqual(common_multiple(numbers), lcm(*numbers))

    def test_rising_shares(self):
        shares = [(1, 2), (1, 3), (-1, 2), (-1, 3), (0, 1), (7, 1), (10 ** 30, 7), (2, 3), (3, 4)]
        self.assertEqual(rising(shares), sorted(shares, key=lambda part: Fraction(*part)))
        self.assertEqual(rising([]), [])


if __name__ == "__main__":
    unittest.main()
