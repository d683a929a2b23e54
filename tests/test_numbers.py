import unittest
from fractions import Fraction
from math import gcd, isqrt, lcm

from laidover.numbers import common_divisor, common_multiple, is_share, is_whole, rising, share, sum_of, whole_root
from tests.samples import NO_WHOLE_NUMBERS

SOME = [0, 1, -1, 2, -2, 6, 9, -12, 35, 10 ** 30, -(6 ** 40)]


class TestNumbers(unittest.TestCase):
    def test_whole_numbers(self):
        for number in SOME:
            self.assertIs(is_whole(number), True)

    def test_no_whole_numbers(self):
        for at, thing in enumerate(NO_WHOLE_NUMBERS):
            with self.subTest(at=at):
                self.assertIs(is_whole(thing), False)

    def test_common_divisor(self):
        for one in SOME:
            for other in SOME:
                self.assertEqual(common_divisor(one, other), gcd(one, other))

    def test_share_in_lowest_terms(self):
        for top in SOME:
            for below in (1, 2, 6, 9, 35, 10 ** 30):
                told = Fraction(top, below)
                self.assertEqual(share(top, below), (told.numerator, told.denominator))

    def test_common_multiple(self):
        for numbers in ([], [1], [7], [4, 6], [6, 4, 10], [35, 10 ** 30, 6 ** 40], [9, 9, 3]):
            self.assertEqual(common_multiple(numbers), lcm(*numbers))

    def test_rising_shares(self):
        shares = [(1, 2), (1, 3), (-1, 2), (-1, 3), (0, 1), (7, 1), (10 ** 30, 7), (2, 3), (3, 4)]
        self.assertEqual(rising(shares), sorted(shares, key=lambda part: Fraction(*part)))
        self.assertEqual(rising([]), [])

    def test_shares(self):
        for thing in ((0, 1), (1, 1), (-1, 1), (1, 2), (-7, 3), (10 ** 30, 7)):
            self.assertIs(is_share(thing), True)

    def test_no_shares(self):
        for thing in NO_WHOLE_NUMBERS + [
            0, 1, (1,), (1, 1, 1), [1, 1], (2, 2), (2, 4), (0, 2), (0, 0), (1, 0), (1, -1), (-1, -2), (True, 1), (1, True),
            ("1", 1), (1, None), ((1,), 1), "11",
        ]:
            self.assertIs(is_share(thing), False)

    def test_sum_of_shares(self):
        for shares in ([], [(1, 2)], [(1, 2), (1, 2)], [(1, 3), (-1, 3)], [(1, 6), (1, 3), (7, 1), (-5, 4)]):
            told = sum([Fraction(*part) for part in shares], Fraction(0))
            self.assertEqual(sum_of(shares), (told.numerator, told.denominator))

    def test_whole_root(self):
        near = [great * great + by for great in (10 ** 9, 2 ** 32, 10 ** 40 + 7, 2 ** 200) for by in (-1, 0, 1)]
        for number in [*range(1000), *near]:
            self.assertEqual(whole_root(number), isqrt(number))


if __name__ == "__main__":
    unittest.main()
