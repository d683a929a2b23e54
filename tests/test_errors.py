import unittest

from laidover import errors

NAMES = ["BadNumber", "BadPoint", "BadMotion", "BadHeap", "BadPairs", "BadName", "BadText", "NoThing"]


class TestErrors(unittest.TestCase):
    def test_over_error_stands_under_value_error(self):
        self.assertTrue(issubclass(errors.OverError, ValueError))

    def test_all_stand_under_over_error(self):
        for name in NAMES:
            with self.subTest(name=name):
                self.assertTrue(issubclass(getattr(errors, name), errors.OverError))

    def test_none_stands_under_another_one(self):
        for one in NAMES:
            for other in NAMES:
                if one != other:
                    with self.subTest(one=one, other=other):
                        self.assertFalse(issubclass(getattr(errors, one), getattr(errors, other)))


if __name__ == "__main__":
    unittest.main()
