import math
import unittest

from formturn.errors import NoBar, OutOfBounds
from formturn.forms import is_bare
from formturn.least import is_least
from formturn.lists import classes
from formturn.primes import prime_told, ways, ways_sum
from tests.helper import NOT_BARS, NOT_NUMBERS, value_at

PRIMES = [number for number in range(3, 10000) if all(number % one for one in range(2, math.isqrt(number) + 1))]


def looked_through(form, number):
    # 4 a times the worth is no less than -bar y y, and so for c and x.
    a, b, c = form
    reach = [math.isqrt(4 * one * number // (4 * a * c - b * b)) for one in (c, a)]
    return [(x, y) for x in range(-reach[0], reach[0] + 1) for y in range(-reach[1], reach[1] + 1)
            if value_at(form, (x, y)) == number]


class PrimeTold(unittest.TestCase):
    def assert_told(self, low, prime):
        answer = prime_told(low, prime)
        self.assertIsInstance(answer, tuple)
        if low % prime not in {x * x % prime for x in range(1, prime)}:
            self.assertEqual(answer, (False,))
            self.assertIs(answer[0], False)
            return False
        self.assertEqual(len(answer), 3)
        self.assertIs(answer[0], True)
        form, place = answer[1:]
        self.assertTrue(is_least(form) and is_bare(form))
        self.assertEqual(form[1] ** 2 - 4 * form[0] * form[2], low)
        self.assertIsInstance(place, tuple)
        self.assertEqual(len(place), 2)
        self.assertEqual(value_at(form, place), prime)
        return True

    def test_written_out(self):
        self.assertEqual(prime_told(-4, 3), (False,))
        self.assertEqual(prime_told(-3, 5), (False,))
        self.assertEqual(prime_told(-4, 5)[:2], (True, (1, 0, 1)))
        self.assertEqual(prime_told(-3, 7)[:2], (True, (1, 1, 1)))
        self.assertEqual(prime_told(-20, 29)[:2], (True, (1, 0, 5)))
        self.assertEqual(prime_told(-20, 3)[:2], (True, (2, 2, 3)))
        self.assertEqual(prime_told(-20, 11), (False,))
        self.assertIn(prime_told(-23, 3)[1], [(2, 1, 3), (2, -1, 3)])

    def test_small_primes_of_small_bars(self):
        for low in [-3, -4, -7, -8, -12, -15, -16, -20, -23, -47, -56, -75, -84, -420]:
            for prime in PRIMES[:40]:
                if low % prime:
                    told = self.assert_told(low, prime)
                    worth = [form for form in classes(low) if looked_through(form, prime)]
                    self.assertEqual(told, worth != [])
                    self.assertTrue(not told or prime_told(low, prime)[1] in worth)

    def test_great_primes_of_low_bars(self):
        for low in [-3, -4, -23, -4000, -4003, -100003, -999983, -999996, -999999, -1000000]:
            self.assertEqual({self.assert_told(low, prime) for prime in PRIMES[-12:] + PRIMES[3:9] if low % prime},
                             {True, False})
            self.assert_told(low, 9973)

    def test_primes_out_of_bounds(self):
        for wrong in [2, 1, 0, -1, -3, -7, 4, 6, 9, 15, 25, 49, 91, 561, 9409, 9999, 10000, 10001, 10007, 10009, 10**50 + 151,
                      -(10**50)] + NOT_NUMBERS:
            for low in [-23, -4, -1000000]:
                with self.assertRaises(OutOfBounds):
                    prime_told(low, wrong)

    def test_primes_that_divide_the_bar(self):
        for low, prime in [(-3, 3), (-15, 3), (-15, 5), (-20, 5), (-23, 23), (-27, 3), (-4 * 9973, 9973), (-9967, 9967),
                           (-1000000, 5), (-999999, 37)]:
            with self.assertRaises(OutOfBounds):
                prime_told(low, prime)

    def test_no_bar(self):
        for number, wrong in enumerate(NOT_BARS + [-1000003, -1000004, -(10**50), 1 - 4 * 10**4000]):
            for prime in [7, 2, 9, 10007, None, True, "7"]:
                with self.subTest(number=number, prime=prime):
                    with self.assertRaises(NoBar):
                        prime_told(wrong, prime)


class Ways(unittest.TestCase):
    def test_written_out(self):
        self.assertEqual(ways(-4, 1), [((1, 0, 1), (-1, 0)), ((1, 0, 1), (0, -1)), ((1, 0, 1), (0, 1)), ((1, 0, 1), (1, 0))])
        self.assertEqual(ways(-23, 2), [((2, -1, 3), (-1, 0)), ((2, -1, 3), (1, 0)), ((2, 1, 3), (-1, 0)), ((2, 1, 3), (1, 0))])
        self.assertEqual(ways(-23, 6), [
            ((1, 1, 6), (-1, 1)), ((1, 1, 6), (0, -1)), ((1, 1, 6), (0, 1)), ((1, 1, 6), (1, -1)),
            ((2, -1, 3), (-1, 1)), ((2, -1, 3), (1, -1)), ((2, 1, 3), (-1, -1)), ((2, 1, 3), (1, 1))])
        self.assertEqual(ways(-4, 3), [])
        # The least form (2, 2, 2) is not bare, so no class.
        self.assertEqual(ways(-12, 2), [])

    def test_nought(self):
        for low in [-3, -4, -12, -23, -420, -4000]:
            self.assertEqual(ways(low, 0), [(form, (0, 0)) for form in classes(low)])

    def test_against_every_place_looked_through(self):
        for low in [-3, -4, -7, -8, -12, -16, -20, -23, -47, -56, -84, -420]:
            for number in list(range(0, 31)) + [49, 100, 121]:
                answer = ways(low, number)
                self.assertIsInstance(answer, list)
                self.assertEqual(answer, [(form, place) for form in classes(low) for place in looked_through(form, number)],
                                 (low, number))

    def test_low_bars_and_great_numbers(self):
        for low in [-3999, -4000, -3311]:
            for number in [1, 1000, 9973, 9999, 10000]:
                self.assertEqual(ways(low, number),
                                 [(form, place) for form in classes(low) for place in looked_through(form, number)])

    def test_the_list_is_the_askers_own(self):
        first = ways(-23, 6)
        kept = list(first)
        first.append("more")
        first[0] = None
        self.assertEqual(ways(-23, 6), kept)

    def test_numbers_out_of_bounds(self):
        for wrong in [-1, 10001, 10**50, -(10**50)] + NOT_NUMBERS:
            for low in [-3, -4000]:
                with self.assertRaises(OutOfBounds):
                    ways(low, wrong)

    def test_no_bar(self):
        for number, wrong in enumerate(NOT_BARS + [-4003, -4004, -1000000, -(10**50)]):
            for other in [1, -1, 10001, None, True]:
                with self.subTest(number=number, other=other):
                    with self.assertRaises(NoBar):
                        ways(wrong, other)


class WaysSum(unittest.TestCase):
    def test_written_out(self):
        for low, number, answer in [(-3, 1, 6), (-3, 2, 0), (-3, 7, 12), (-3, 49, 18), (-4, 1, 4), (-4, 3, 0), (-4, 5, 8),
                                    (-4, 9, 4), (-4, 25, 12), (-4, 65, 16), (-23, 1, 2), (-23, 2, 4), (-23, 6, 8),
                                    (-23, 5, 0), (-23, 8, 8), (-11, 2, 0), (-11, 4, 2), (-7, 2, 4), (-7, 10000, 10),
                                    (-20, 3, 4), (-20, 7, 4), (-8, 9999, 0), (-163, 41, 4), (-12, 7, 4)]:
            with self.subTest(low=low, number=number):
                self.assertEqual(ways_sum(low, number), answer)

    def test_against_the_ways(self):
        for low in [-3, -4, -7, -8, -11, -12, -15, -16, -20, -23, -27, -47, -56, -75, -84, -100, -420, -3299, -3999, -4000]:
            for number in list(range(1, 60)) + [9973, 9999, 10000, 8192, 6561, 9409, 7350]:
                if math.gcd(low, number) == 1:
                    self.assertEqual(ways_sum(low, number), len(ways(low, number)), (low, number))

    def test_bars_below_the_listed_ones(self):
        # Of -163 times a square the side by 3 is that of -163, which leaves 2, no square.
        self.assertEqual(ways_sum(-163 * 41**2 * 10**4, 3), 0)
        for low in [-4003, -10**6, -(10**6) + 1]:
            for prime in [7, 11, 13, 9973]:
                if low % prime:
                    square = low % prime in {x * x % prime for x in range(1, prime)}
                    self.assertEqual(ways_sum(low, prime), 4 if square else 0)

    def test_a_bar_of_many_figures(self):
        great = 10**3996
        # By 3, 7 and 11 the bar leaves what 1 - 4 does: -3, and it leaves 5 by eight.
        low = 1 - 4 * (3 * 7 * 11 * great + 1)
        self.assertEqual(low % 8, 5)
        self.assertEqual(ways_sum(low, 1), 2)
        self.assertEqual(ways_sum(low, 7), 4)
        self.assertEqual(ways_sum(low, 11), 0)
        self.assertEqual(ways_sum(low, 2), 0)
        self.assertEqual(ways_sum(low, 4), 2)
        self.assertEqual(ways_sum(low, 28), 4)
        self.assertEqual(ways_sum(low, 49), 6)
        with self.assertRaises(OutOfBounds):
            ways_sum(low, 3)

    def test_numbers_out_of_bounds(self):
        for wrong in [0, -1, 10001, 10**50, -(10**50)] + NOT_NUMBERS:
            for low in [-3, -4, -4003, -4 * 10**50]:
                with self.assertRaises(OutOfBounds):
                    ways_sum(low, wrong)

    def test_a_common_divisor_with_the_bar(self):
        for low, number in [(-4, 2), (-8, 6), (-20, 10), (-12, 10000), (-3, 3), (-3, 9999), (-15, 25), (-23, 46),
                            (-4 * 10**50, 4), (-4 * 10**50, 5), (-9973 * 15, 9973)]:
            with self.assertRaises(OutOfBounds):
                ways_sum(low, number)

    def test_no_bar(self):
        for number, wrong in enumerate(NOT_BARS):
            for other in [1, 0, 10001, None, True]:
                with self.subTest(number=number, other=other):
                    with self.assertRaises(NoBar):
                        ways_sum(wrong, other)

    def test_refused_again_with_a_good_question_between(self):
        for ignored in range(2):
            with self.assertRaises(OutOfBounds):
                ways_sum(-4, 2)
            self.assertEqual(ways_sum(-4, 5), 8)


if __name__ == "__main__":
    unittest.main()
