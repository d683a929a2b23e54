import unittest
from fractions import Fraction
from math import gcd

from laidover.numbers import common_divisor, is_whole, share
from tests.samples import NO_WHOLE_NUMBERS

SOME = [0, 1, -1, 2, -2, 6, 9, -12, 35, 10 ** 30, -(6 ** 40)]


class TestNumbers(unittest.TestCase):
    def test_whole_numbers(self):
        for number in SOME:
            self.assertIs(is_whole(number), True)

    def test_no_whole_numbers(self):
        for at, thing in enumerate(NO_WHOLE_NUMBERS):
            with self.subTest(at=at):
                self.assertIs(is_whole(thing), False)

    def test_common_divisor(self):
        for one in SOME:
            for other in SOME:
                self.assertEqual(common_divisor(one, other), gcd(one, other))

    def test_share_in_lowest_terms(self):
        for top in SOME:
            for below in (1, 2, 6, 9, 35, 10 ** 30):
                told = Fraction(top, below)
                self.assertEqual(share(top, below), (told.numerator, told.denominator))


if __name__ == "__main__":
    unittest.main()
