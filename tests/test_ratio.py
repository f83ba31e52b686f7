"""neverlate.ratio: points 8 to 10."""

import unittest
from fractions import Fraction
from random import Random

from neverlate.errors import InvalidRatio
from neverlate.ratio import (
    add_ratios,
    compare_ratios,
    make_ratio,
    ratio_text,
    subtract_ratios,
    sum_ratios,
)

HUGE = 10 ** 400 + 7


def pair(fraction):
    return (fraction.numerator, fraction.denominator)


class Point8(unittest.TestCase):
    def test_lowest_terms(self):
        self.assertEqual(make_ratio(6, 4), (3, 2))
        self.assertEqual(make_ratio(3, 2), (3, 2))
        self.assertEqual(make_ratio(12, 4), (3, 1))

    def test_negative_top(self):
        self.assertEqual(make_ratio(-6, 4), (-3, 2))

    def test_zero_has_the_bottom_1(self):
        for bottom in (1, 5, -5, HUGE):
            self.assertEqual(make_ratio(0, bottom), (0, 1))

    def test_a_ratio_is_a_tuple_of_two_integers(self):
        self.assertIs(type(make_ratio(4, 2)), tuple)
        self.assertEqual([type(part) for part in make_ratio(4, 2)], [int, int])


class Point9(unittest.TestCase):
    def test_examples(self):
        self.assertEqual(make_ratio(3, -6), (-1, 2))
        with self.assertRaises(InvalidRatio):
            make_ratio(1, 0)
        self.assertEqual(sum_ratios([(1, 2), (1, 3), (1, 6)]), (1, 1))

    def test_bottom_0(self):
        for top in (0, -3, HUGE):
            with self.assertRaises(InvalidRatio):
                make_ratio(top, 0)

    def test_negative_bottom(self):
        self.assertEqual(make_ratio(-3, -6), (1, 2))
        self.assertEqual(make_ratio(5, -1), (-5, 1))

    def test_sums_and_differences(self):
        self.assertEqual(add_ratios((1, 6), (1, 3)), (1, 2))
        self.assertEqual(add_ratios((-1, 2), (1, 2)), (0, 1))
        self.assertEqual(subtract_ratios((1, 2), (1, 3)), (1, 6))
        self.assertEqual(subtract_ratios((1, 3), (1, 2)), (-1, 6))
        self.assertEqual(subtract_ratios((2, 3), (2, 3)), (0, 1))

    def test_comparison(self):
        self.assertEqual(compare_ratios((1, 3), (1, 2)), -1)
        self.assertEqual(compare_ratios((1, 2), (1, 2)), 0)
        self.assertEqual(compare_ratios((1, 2), (1, 3)), 1)
        self.assertEqual(compare_ratios((-1, 2), (-1, 3)), -1)
        self.assertEqual(compare_ratios((-1, 2), (0, 1)), -1)

    def test_sum_of_lists(self):
        self.assertEqual(sum_ratios([]), (0, 1))
        self.assertEqual(sum_ratios([(-3, 4)]), (-3, 4))
        self.assertEqual(sum_ratios([(1, 2), (-1, 2)]), (0, 1))

    def test_the_list_is_not_changed(self):
        ratios = [(1, 2), (1, 3)]
        sum_ratios(ratios)
        self.assertEqual(ratios, [(1, 2), (1, 3)])

    def test_integers_of_many_digits(self):
        self.assertEqual(make_ratio(HUGE * 6, HUGE * 4), (3, 2))
        self.assertEqual(compare_ratios((HUGE, HUGE + 1), (HUGE + 1, HUGE + 2)), -1)
        self.assertEqual(compare_ratios((HUGE + 1, HUGE), (HUGE + 2, HUGE + 1)), 1)
        self.assertEqual(add_ratios((1, HUGE), (1, HUGE)), pair(Fraction(2, HUGE)))
        self.assertEqual(subtract_ratios((HUGE + 1, HUGE), (1, 1)), (1, HUGE))
        self.assertEqual(sum_ratios([(1, HUGE)] * 3), pair(Fraction(3, HUGE)))

    def test_against_fractions(self):
        random = Random(1)
        for _ in range(300):
            first = Fraction(random.randint(-30, 30), random.randint(1, 30))
            second = Fraction(random.randint(-30, 30), random.randint(1, 30))
            self.assertEqual(add_ratios(pair(first), pair(second)), pair(first + second))
            self.assertEqual(subtract_ratios(pair(first), pair(second)), pair(first - second))
            order = (first > second) - (first < second)
            self.assertEqual(compare_ratios(pair(first), pair(second)), order)


class Point10(unittest.TestCase):
    def test_with_a_bottom(self):
        self.assertEqual(ratio_text((-1, 2)), "-1/2")
        self.assertEqual(ratio_text((10, 3)), "10/3")

    def test_the_top_alone(self):
        self.assertEqual(ratio_text((0, 1)), "0")
        self.assertEqual(ratio_text((7, 1)), "7")
        self.assertEqual(ratio_text((-7, 1)), "-7")

    def test_integers_of_many_digits(self):
        for digits in (59, 60, 61, 120, 121, 500):
            number = 10 ** digits + 3
            self.assertEqual(ratio_text((number, 1)), "1" + "0" * (digits - 1) + "3")
            self.assertEqual(ratio_text((-1, number)), "-1/1" + "0" * (digits - 1) + "3")
        self.assertEqual(ratio_text((10 ** 60 - 1, 1)), "9" * 60)

    def test_more_digits_than_pythons_own_str_writes(self):
        self.assertEqual(ratio_text((-(10 ** 9000), 1)), "-1" + "0" * 9000)
        self.assertEqual(ratio_text((2, 10 ** 5000 + 1)), "2/1" + "0" * 4999 + "1")


if __name__ == "__main__":
    unittest.main()
