import math
import unittest

from formturn.errors import NoBar, OutOfBounds
from formturn.whole import (common_divisor, divisor_with_shares, is_bar, is_whole, is_whole_tuple, leaves_square, power_by,
                            prime_divisors, prime_factors, require_bar, require_bar_from, require_number, require_whole,
                            root_of)
from tests.helper import NOT_BARS, NOT_NUMBERS


class WholeNumbers(unittest.TestCase):
    def test_whole_numbers_of_either_sign_and_nought(self):
        for value in (0, 1, -1, 7, -12, 10**4000, -(10**4000)):
            self.assertIs(is_whole(value), True)

    def test_true_and_false_are_none(self):
        self.assertIs(is_whole(True), False)
        self.assertIs(is_whole(False), False)

    def test_other_kinds_are_none(self):
        for value in (None, "1", 1.0, b"1", (1,), [1], {1: 1}, {1}, object(), int):
            with self.subTest(value=value):
                self.assertIs(is_whole(value), False)


class WholeTuples(unittest.TestCase):
    def test_a_tuple_of_so_many(self):
        self.assertIs(is_whole_tuple((1, 0, -2), 3), True)
        self.assertIs(is_whole_tuple((1, 0, -2, 5), 4), True)

    def test_another_length(self):
        for value in ((), (1,), (1, 0), (1, 0, 1, 0)):
            with self.subTest(value=value):
                self.assertIs(is_whole_tuple(value, 3), False)

    def test_another_kind(self):
        for value in ([1, 0, 1], "101", {1: 1, 2: 2, 3: 3}, range(3), None, 3):
            with self.subTest(value=value):
                self.assertIs(is_whole_tuple(value, 3), False)

    def test_another_kind_within(self):
        for wrong in (True, False, None, "1", 1.0, (1,), [1]):
            for place in range(3):
                value = [1, 2, 3]
                value[place] = wrong
                with self.subTest(value=value):
                    self.assertIs(is_whole_tuple(tuple(value), 3), False)


class Bars(unittest.TestCase):
    def test_numbers_from_the_top_down(self):
        bars = [number for number in range(12, -21, -1) if is_bar(number)]
        self.assertEqual(bars, [-3, -4, -7, -8, -11, -12, -15, -16, -19, -20])

    def test_great_bars(self):
        self.assertIs(is_bar(1 - 4 * 10**4000), True)
        self.assertIs(is_bar(-4 * 10**4000), True)
        self.assertIs(is_bar(2 - 4 * 10**4000), False)
        self.assertIs(is_bar(4 * 10**4000), False)

    def test_what_is_no_number(self):
        for value in (True, False, None, "-3", -3.0, (-3,), [-3]):
            with self.subTest(value=value):
                self.assertIs(is_bar(value), False)

    def test_what_is_no_bar_is_refused(self):
        for number, wrong in enumerate(NOT_BARS):
            with self.subTest(number=number):
                with self.assertRaises(NoBar):
                    require_bar(wrong)
                with self.assertRaises(NoBar):
                    require_bar_from(wrong, -4000)

    def test_bars_and_too_low_ones(self):
        for bar in (-3, -4, -3999, -4000):
            require_bar(bar)
            require_bar_from(bar, -4000)
        for bar in (-4003, -4004, 1 - 4 * 10**4500):
            require_bar(bar)
            with self.assertRaises(NoBar):
                require_bar_from(bar, -4000)


class Bounds(unittest.TestCase):
    def test_within_and_at_both_ends(self):
        for number in (-3, -2, 0, 7):
            require_number(number, -3, 7)

    def test_beyond_and_no_number(self):
        for wrong in [-4, 8, 10**4500, -(10**4500)] + NOT_NUMBERS:
            with self.assertRaises(OutOfBounds):
                require_number(wrong, -3, 7)


    def test_whole_numbers_without_bounds(self):
        for number in (0, -1, 10**4500, -(10**4500)):
            require_whole(number)
        for wrong in NOT_NUMBERS:
            with self.assertRaises(OutOfBounds):
                require_whole(wrong)


class Primes(unittest.TestCase):
    def test_factors_of_small_numbers(self):
        for number in range(1, 3000):
            factors = prime_factors(number)
            self.assertEqual(math.prod(factors), number)
            self.assertEqual(factors, sorted(factors))
            for prime in factors:
                self.assertTrue(prime > 1 and all(prime % one for one in range(2, math.isqrt(prime) + 1)))
            self.assertEqual(prime_divisors(number), sorted(set(factors)))

    def test_factors_of_greater_numbers(self):
        self.assertEqual(prime_factors(999983), [999983])
        self.assertEqual(prime_factors(1999966), [2, 999983])
        self.assertEqual(prime_factors(997 * 997), [997, 997])
        self.assertEqual(prime_divisors(2000000), [2, 5])

    def test_powers(self):
        for divisor in range(2, 20):
            for base in range(0, divisor):
                for exponent in range(0, 12):
                    self.assertEqual(power_by(base, exponent, divisor), pow(base, exponent, divisor))

    def test_squares_left(self):
        for prime in [3, 5, 7, 11, 13, 41, 97, 9973]:
            squares = {one * one % prime for one in range(1, prime)}
            for number in list(range(1, min(prime, 200))) + [-1, -2, -4, 10**50 + 1, 1 - 10**50]:
                if number % prime:
                    self.assertIs(leaves_square(number, prime), number % prime in squares)


class Shares(unittest.TestCase):
    def assert_shares(self, one, other):
        divisor, first, second = divisor_with_shares(one, other)
        self.assertTrue(divisor == math.gcd(one, other))
        self.assertTrue(first * one + second * other == divisor)

    def test_all_small_pairs(self):
        for one in range(-25, 26):
            for other in range(-25, 26):
                self.assert_shares(one, other)

    def test_great_numbers(self):
        self.assert_shares(6 * 10**60, -9 * 7**60)
        self.assert_shares(2**13000 * 21, 5**5600 * 35)
        self.assert_shares(10**4000, 0)
        self.assert_shares(0, -(10**4000))


class Roots(unittest.TestCase):
    def test_all_small_numbers(self):
        for number in range(5000):
            self.assertEqual(root_of(number), math.isqrt(number))

    def test_beside_great_squares(self):
        for root in (20000, 99999, 10**40, 10**300 + 7):
            self.assertEqual(root_of(root * root - 1), root - 1)
            self.assertEqual(root_of(root * root), root)
            self.assertEqual(root_of(root * root + 1), root)


class CommonDivisors(unittest.TestCase):
    def test_all_small_pairs(self):
        for one in range(-30, 31):
            for other in range(-30, 31):
                self.assertEqual(common_divisor(one, other), math.gcd(one, other), (one, other))

    def test_great_numbers(self):
        self.assertEqual(common_divisor(6 * 10**60, -9 * 7**60), 3)
        # Any power of two and any of five have no divisor above 1 in common.
        self.assertEqual(common_divisor(2**13000 * 21, 5**5600 * 35), 7)

    def test_neighbours_of_the_golden_row_take_the_most_steps(self):
        lesser, greater = 1, 1
        while greater < 10**4000:
            lesser, greater = greater, lesser + greater
        self.assertEqual(common_divisor(lesser, greater), 1)
        self.assertEqual(common_divisor(15 * lesser, 15 * greater), 15)


if __name__ == "__main__":
    unittest.main()
