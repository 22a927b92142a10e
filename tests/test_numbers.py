"""Point [4]: kinds of numbers, and patterns."""

import random
import unittest

from caseways.numbers import least_of, most_of, number_of, pattern_of
from helper import KINDS, numbers_of_kind

SMALL = [(width, sign) for width, sign in KINDS if width <= 10]


class Ends(unittest.TestCase):
    def test_known_kinds(self):
        self.assertEqual((least_of(1, 0), most_of(1, 0)), (0, 1))
        self.assertEqual((least_of(1, 1), most_of(1, 1)), (-1, 0))
        self.assertEqual((least_of(8, 0), most_of(8, 0)), (0, 255))
        self.assertEqual((least_of(8, 1), most_of(8, 1)), (-128, 127))
        self.assertEqual((least_of(40, 0), most_of(40, 0)), (0, 1099511627775))
        self.assertEqual((least_of(40, 1), most_of(40, 1)), (-549755813888, 549755813887))

    def test_all_kinds(self):
        for width, sign in KINDS:
            kind = numbers_of_kind(width, sign)
            self.assertEqual(least_of(width, sign), kind[0], (width, sign))
            self.assertEqual(most_of(width, sign), kind[-1], (width, sign))


class Patterns(unittest.TestCase):
    def test_known_patterns(self):
        self.assertEqual(pattern_of(0, 1), 0)
        self.assertEqual(pattern_of(-1, 1), 1)
        self.assertEqual(pattern_of(-1, 8), 255)
        self.assertEqual(pattern_of(-128, 8), 128)
        self.assertEqual(pattern_of(127, 8), 127)
        self.assertEqual(pattern_of(-1, 40), 1099511627775)

    def test_numbers_beyond_the_kind(self):
        self.assertEqual(pattern_of(256, 8), 0)
        self.assertEqual(pattern_of(1000, 8), 232)
        self.assertEqual(pattern_of(-129, 8), 127)
        self.assertEqual(pattern_of(-256, 8), 0)
        self.assertEqual(pattern_of(-1000, 8), 24)
        self.assertEqual(pattern_of(2 ** 40 + 5, 40), 5)
        self.assertEqual(pattern_of(-(10 ** 30), 40), -(10 ** 30) % 2 ** 40)

    def test_what_is_left_lies_from_0_on_and_below_2_to_the_width(self):
        for width, sign in KINDS:
            whole = 2 ** width
            for near in (-3 * whole, -whole, -whole // 2, 0, whole // 2, whole, 5 * whole):
                for number in range(near - 2, near + 3):
                    left = pattern_of(number, width)
                    self.assertTrue(0 <= left < whole, (number, width))
                    self.assertEqual((number - left) % whole, 0, (number, width))


class ThereAndBack(unittest.TestCase):
    def test_known_numbers(self):
        self.assertEqual(number_of(1, 1, 0), 1)
        self.assertEqual(number_of(1, 1, 1), -1)
        self.assertEqual(number_of(0, 1, 1), 0)
        self.assertEqual(number_of(127, 8, 1), 127)
        self.assertEqual(number_of(128, 8, 1), -128)
        self.assertEqual(number_of(128, 8, 0), 128)
        self.assertEqual(number_of(255, 8, 1), -1)

    def test_all_numbers_of_small_kinds(self):
        for width, sign in SMALL:
            kind = numbers_of_kind(width, sign)
            patterns = [pattern_of(number, width) for number in kind]
            self.assertEqual(sorted(patterns), list(range(2 ** width)), (width, sign))
            back = [number_of(pattern, width, sign) for pattern in patterns]
            self.assertEqual(back, list(kind), (width, sign))

    def test_patterns_of_all_kinds(self):
        chance = random.Random(4)
        for width, sign in KINDS:
            whole = 2 ** width
            patterns = [0, 1, whole // 2 - 1, whole // 2, whole - 1]
            patterns += [chance.randrange(whole) for _ in range(50)]
            for pattern in patterns:
                number = number_of(pattern, width, sign)
                self.assertIn(number, numbers_of_kind(width, sign))
                self.assertEqual(number % whole, pattern, (width, sign))
                self.assertEqual(pattern_of(number, width), pattern, (width, sign))


if __name__ == "__main__":
    unittest.main()
