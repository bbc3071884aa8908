import math
import unittest

from formturn.errors import NoBar, NotAForm, NotBare, OtherBar
from formturn.genus import genus_of, halved, marks_of, same_genus
from formturn.joining import joined, neutral
from formturn.least import least_of
from formturn.lists import classes, kept
from tests.helper import NOT_BARS, NOT_FORMS, form_by_values, turning_of, value_at

FAR = [turning_of(steps) for steps in [[1], [2, -3, 4], [10**6, -(10**7)], [10**40, 3, -(10**20)]]]
BARS = [-3, -4, -7, -8, -11, -12, -15, -16, -20, -23, -24, -27, -32, -36, -39, -40, -48, -56, -63, -64, -72, -75, -84, -96,
        -104, -128, -136, -192, -232, -420, -480, -1155, -1435, -3315, -3360, -3840, -3999, -4000]


def primes_of(number):
    return [one for one in range(2, number + 1) if number % one == 0 and all(one % two for two in range(2, math.isqrt(one) + 1))]


def sign_by_looking(mark, number):
    if mark == 4:
        return 1 if number % 4 == 1 else -1
    if mark in (8, -8):
        return 1 if number % 8 in ((1, 7) if mark == 8 else (1, 3)) else -1
    return 1 if number % mark in {x * x % mark for x in range(1, mark)} else -1


def telling_numbers(form, low):
    near = [(x, y) for x in range(-9, 10) for y in range(-9, 10)]
    return [number for number in (value_at(form, place) for place in near) if math.gcd(number, 2 * low) == 1]


class Marks(unittest.TestCase):
    def test_written_out(self):
        for low, answer in [
            (-3, [3]), (-4, [4]), (-7, [7]), (-8, [-8]), (-11, [11]), (-12, [3]), (-15, [3, 5]), (-16, [4]), (-20, [5, 4]),
            (-23, [23]), (-24, [3, 8]), (-27, [3]), (-28, [7]), (-32, [4, 8]), (-36, [3, 4]), (-40, [5, -8]), (-48, [3, 4]),
            (-52, [13, 4]), (-56, [7, 8]), (-63, [3, 7]), (-64, [4, 8]), (-72, [3, -8]), (-75, [3, 5]), (-80, [5, 4]),
            (-84, [3, 7, 4]), (-88, [11, 8]), (-96, [3, 4, 8]), (-104, [13, -8]), (-108, [3]), (-112, [7, 4]),
            (-120, [3, 5, 8]), (-128, [4, 8]), (-420, [3, 5, 7, 4]), (-1155, [3, 5, 7, 11]), (-3999, [3, 31, 43]),
            (-4000, [5, 4, 8]), (-4003, [4003]), (-4004, [7, 11, 13, 4]), (-5460, [3, 5, 7, 13, 4]),
            (-999983, [999983]), (-999992, [7, 2551, 8]), (-999996, [3, 167, 499]), (-999999, [3, 7, 11, 13, 37]),
            (-1000000, [5, 4, 8]),
        ]:
            with self.subTest(low=low):
                self.assertEqual(marks_of(low), answer)

    def test_each_rest_by_eight(self):
        # The bar -4 n, for n that leaves 0 to 7 by eight.
        ends = [[4, 8], [4], [-8], [], [4], [4], [8], []]
        for n in range(1, 130):
            odd = [prime for prime in primes_of(n) if prime != 2]
            answer = marks_of(-4 * n)
            self.assertIsInstance(answer, list)
            self.assertEqual(answer, odd + ends[n % 8], n)

    def test_odd_bars(self):
        for low in range(-3, -600, -4):
            self.assertEqual(marks_of(low), primes_of(-low), low)

    def test_the_list_is_the_askers_own(self):
        first = marks_of(-420)
        first.append("more")
        first[0] = None
        self.assertEqual(marks_of(-420), [3, 5, 7, 4])


class Genus(unittest.TestCase):
    def test_written_out(self):
        for form, answer in [
            ((1, 1, 1), 0), ((1, 0, 1), 0), ((1, 0, 5), 0), ((2, 2, 3), 3), ((1, 1, 4), 0), ((2, 1, 2), 3), ((2, 1, 3), 0),
            ((1, 0, 14), 0), ((2, 0, 7), 0), ((3, 2, 5), 3), ((3, -2, 5), 3), ((1, 0, 6), 0), ((2, 0, 3), 3),
            ((1, 0, 10), 0), ((2, 0, 5), 3), ((1, 0, 8), 0), ((3, 2, 3), 3), ((1, 0, 21), 0), ((2, 2, 11), 5),
            ((3, 0, 7), 6), ((5, 4, 5), 3), ((3, 2, 9), 0), ((2, 0, 13), 3), ((5, 4, 6), 3), ((5, -4, 6), 3),
        ]:
            with self.subTest(form=form):
                self.assertEqual(genus_of(form), answer)

    def test_all_classes_against_signs_of_many_numbers(self):
        for low in BARS:
            marks = marks_of(low)
            for form in classes(low):
                numbers = telling_numbers(form, low)
                self.assertTrue(numbers)
                answer = genus_of(form)
                self.assertEqual(answer // 2 ** len(marks), 0)
                for number in numbers:
                    signs = [sign_by_looking(mark, number) for mark in marks]
                    self.assertEqual(answer, sum(2**k for k, sign in enumerate(signs) if sign == -1), (form, number))

    def test_of_the_neutral_form_and_of_joined_forms(self):
        for low in BARS:
            self.assertEqual(genus_of(neutral(low)), 0)
            forms = classes(low)[:12]
            for one in forms:
                for other in forms:
                    self.assertEqual(genus_of(joined(one, other)[0]), genus_of(one) ^ genus_of(other))

    def test_of_alike_forms(self):
        for low in [-20, -56, -84, -420, -4000]:
            for form in classes(low):
                for turning in FAR:
                    self.assertEqual(genus_of(form_by_values(form, turning)), genus_of(form))

    def test_low_bars(self):
        # -5460 is 3, 5, 7, 13 and 4 in product: each of sixteen classes has a genus of its own.
        forms = [(1, 0, 1365), (2, 2, 683), (3, 0, 455), (5, 0, 273), (6, 6, 229), (7, 0, 195), (10, 10, 139), (13, 0, 105),
                 (14, 14, 101), (15, 0, 91), (21, 0, 65), (26, 26, 59), (30, 30, 53), (35, 0, 39), (37, 4, 37), (42, 42, 43)]
        self.assertEqual(len({genus_of(form) for form in forms}), 16)
        for form, marks in [((1, 0, 250000), [5, 4, 8]), ((3, 1, 83332), [999983]), ((3, 2, 83333), [7, 2551, 8]),
                            ((2, 1, 125000), [3, 7, 11, 13, 37]), ((5, 2, 50000), [3, 167, 499]),
                            ((13, 8, 19232), [5, 4, 8]), ((16, 0, 15625), [5, 4, 8])]:
            low = form[1] ** 2 - 4 * form[0] * form[2]
            self.assertEqual(marks_of(low), marks)
            signs = [sign_by_looking(mark, telling_numbers(form, low)[0]) for mark in marks]
            self.assertEqual(genus_of(form), sum(2**k for k, sign in enumerate(signs) if sign == -1))

    def test_great_forms_of_a_low_bar(self):
        far = turning_of([k % 9 + 2 for k in range(2500)])
        for form in [(16, 0, 15625), (1, 0, 250000), (3, 2, 5), (2, 2, 3)]:
            self.assertEqual(genus_of(form_by_values(form, far)), genus_of(form))


class SameGenus(unittest.TestCase):
    def test_both_ways(self):
        for low in BARS:
            forms = classes(low)[:14]
            for one in forms:
                tells = same_genus(one)
                self.assertIs(tells(one), True)
                for other in forms:
                    self.assertIs(tells(other), genus_of(one) == genus_of(other))
                    self.assertIs(same_genus(other)(one), tells(other))

    def test_written_out(self):
        self.assertIs(same_genus((2, 2, 3))((1, 0, 5)), False)
        self.assertIs(same_genus((1, 0, 5))((2, 2, 3)), False)
        self.assertIs(same_genus((2, 0, 7))((1, 0, 14)), True)
        self.assertIs(same_genus((3, 2, 5))((3, -2, 5)), True)
        self.assertIs(same_genus((5, 2, 3))((3, 2, 5)), True)

    def test_two_functions_side_by_side(self):
        one = same_genus((2, 2, 3))
        other = same_genus((1, 0, 14))
        self.assertIs(one((2, 2, 3)), True)
        self.assertIs(other((2, 0, 7)), True)
        self.assertIs(one((1, 0, 5)), False)
        self.assertIs(other((3, 2, 5)), False)

    def test_with_kept(self):
        self.assertEqual(kept(-56, same_genus((1, 0, 14))), [(1, 0, 14), (2, 0, 7)])
        self.assertEqual(kept(-56, same_genus((3, 2, 5))), [(3, -2, 5), (3, 2, 5)])

    def test_of_what_is_no_form(self):
        tells = same_genus((2, 1, 3))
        for number, wrong in enumerate(NOT_FORMS):
            with self.subTest(number=number):
                with self.assertRaises(NotAForm):
                    tells(wrong)
        self.assertIs(tells((1, 1, 6)), True)

    def test_of_a_form_of_another_bar_and_of_one_that_is_not_bare(self):
        with self.assertRaises(OtherBar):
            same_genus((2, 1, 3))((2, 2, 3))
        with self.assertRaises(NotBare):
            same_genus((1, 0, 3))((2, 2, 2))


class Halved(unittest.TestCase):
    def assert_halved(self, form, low):
        answer = halved(form)
        self.assertIsInstance(answer, tuple)
        if answer[0] is True:
            self.assertEqual(len(answer), 2)
            self.assertIn(answer[1], classes(low))
            self.assertEqual(joined(answer[1], answer[1])[0], least_of(form)[0])
            return
        self.assertIs(answer[0], False)
        self.assertEqual(len(answer), 3)
        mark, place = answer[1:]
        self.assertIn(mark, marks_of(low))
        self.assertIsInstance(place, tuple)
        number = value_at(form, place)
        self.assertEqual(math.gcd(number, 2 * low), 1)
        self.assertEqual(sign_by_looking(mark, number), -1)
        self.assertNotIn(least_of(form)[0], [joined(half, half)[0] for half in classes(low)])

    def test_every_class(self):
        for low in BARS:
            for form in classes(low):
                self.assert_halved(form, low)

    def test_forms_that_are_not_least(self):
        for low in [-3, -4, -20, -23, -56, -84, -420]:
            for form in classes(low):
                for turning in FAR:
                    self.assert_halved(form_by_values(form, turning), low)

    def test_written_out(self):
        self.assertEqual(halved((1, 1, 1)), (True, (1, 1, 1)))
        self.assertEqual(halved((2, 1, 3)), (True, (2, -1, 3)))
        self.assertEqual(halved((10, 14, 5)), (True, (1, 0, 1)))
        self.assertIs(halved((2, 2, 3))[0], False)
        self.assertIn(halved((2, 0, 7)), [(True, (3, 2, 5)), (True, (3, -2, 5))])

    def test_of_a_great_form(self):
        far = turning_of([k % 9 + 2 for k in range(2500)])
        self.assert_halved(form_by_values((2, 0, 7), far), -56)
        self.assert_halved(form_by_values((3, 2, 5), far), -56)


class WrongInputs(unittest.TestCase):
    def test_no_bar(self):
        for number, wrong in enumerate(NOT_BARS + [-1000003, -1000004, -(10**50), 1 - 4 * 10**4000]):
            with self.subTest(number=number):
                with self.assertRaises(NoBar):
                    marks_of(wrong)

    def test_no_form(self):
        for number, wrong in enumerate(NOT_FORMS):
            for ask in [genus_of, same_genus, halved]:
                with self.subTest(number=number):
                    with self.assertRaises(NotAForm):
                        ask(wrong)

    def test_too_low_a_bar(self):
        for form in [(1, 1, 250001), (1, 0, 250001), (10**40, 1, 10**40), (10**1999, 1, 10**1999)]:
            for ask in [genus_of, same_genus, halved]:
                with self.assertRaises(NoBar):
                    ask(form)
        for form in [(1, 1, 1001), (1, 0, 1001), (1, 0, 250000)]:
            with self.assertRaises(NoBar):
                halved(form)
            self.assertEqual(genus_of(form), 0)
        self.assertEqual(halved((1, 0, 1000))[0], True)

    def test_not_bare_ahead_of_too_low_a_bar(self):
        for form in [(2, 2, 2), (3, 0, 3), (2, 0, 1000), (2, 0, 250001 * 2), (10**40, 10**39, 10**41)]:
            for ask in [genus_of, same_genus, halved]:
                with self.assertRaises(NotBare):
                    ask(form)

    def test_refused_again_with_a_good_question_between(self):
        for ignored in range(2):
            with self.assertRaises(NotBare):
                genus_of((2, 2, 2))
            self.assertEqual(genus_of((2, 2, 3)), 3)


if __name__ == "__main__":
    unittest.main()
