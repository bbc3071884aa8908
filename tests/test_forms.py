import unittest
from decimal import Decimal
from fractions import Fraction

from formturn.errors import FormError, NotAForm
from formturn.forms import bar_of, is_bare, worth
from tests.helper import Hostile


def worth_at_one(form):
    return worth(form, (1, 1))


ASKED = [("bar_of", bar_of), ("worth", worth_at_one), ("is_bare", is_bare)]


class Refusing(unittest.TestCase):
    def assert_refused(self, value):
        for name, ask in ASKED:
            with self.subTest(name=name):
                with self.assertRaises(NotAForm):
                    ask(value)


class Bar(unittest.TestCase):
    def test_middle_numbers_of_either_sign_and_nought(self):
        for form, bar in [
            ((1, 0, 5), -20),
            ((2, 2, 3), -20),
            ((2, -2, 3), -20),
            ((2, 1, 3), -23),
            ((2, -1, 3), -23),
            ((7, 0, 11), -308),
            ((10, 14, 5), -4),
            ((10, -14, 5), -4),
            ((100, 99, 25), -199),
            ((3, 7, 1000), -11951),
        ]:
            with self.subTest(form=form):
                self.assertEqual(bar_of(form), bar)

    def test_the_bars_nearest_to_nought(self):
        for form in [(1, 1, 1), (1, -1, 1), (1, 3, 3), (7, 5, 1), (7, -19, 13)]:
            with self.subTest(form=form):
                self.assertEqual(bar_of(form), -3)
        for form in [(1, 0, 1), (1, 2, 2), (2, -2, 1), (5, 4, 1), (5, -14, 10)]:
            with self.subTest(form=form):
                self.assertEqual(bar_of(form), -4)

    def test_a_bar_is_below_nought_and_leaves_0_or_1_by_four(self):
        for a in range(1, 8):
            for b in range(-6, 7):
                for c in range(b * b // (4 * a) + 1, 15):
                    bar = bar_of((a, b, c))
                    self.assertLess(bar, 0)
                    self.assertEqual(bar % 4, b % 2)

    def test_great_numbers_to_the_last_figure(self):
        self.assertEqual(str(bar_of((10**40, 1, 10**40))), "-3" + "9" * 80)
        self.assertEqual(str(bar_of((10**45, -(10**45) - 1, 10**45 + 1))), "-3" + "0" * 44 + "1" + "9" * 45)
        self.assertEqual(str(bar_of((10**2000, -1, 10**2000))), "-3" + "9" * 4000)

    def test_numbers_of_four_thousand_figures(self):
        great = 10**4000 - 1
        self.assertTrue(bar_of((great, great, great)) == -3 * (10**8000 - 2 * 10**4000 + 1))
        # A bar of -3 made from great numbers: only the last figure parts it from nought.
        self.assertTrue(bar_of((1, 2 * great + 1, great * great + great + 1)) == -3)

    def test_numbers_somewhat_beyond_four_thousand_figures(self):
        self.assertTrue(bar_of((10**4500, 1, 10**4500)) == 1 - 4 * 10**9000)


class Worth(unittest.TestCase):
    def test_places_with_numbers_of_either_sign(self):
        for form, place, answer in [
            ((2, 1, 3), (1, 1), 6),
            ((2, 1, 3), (-1, 1), 4),
            ((2, 1, 3), (1, -1), 4),
            ((2, 1, 3), (-1, -1), 6),
            ((2, -1, 3), (1, 1), 4),
            ((2, -1, 3), (-1, 1), 6),
            ((1, 0, 1), (3, 4), 25),
            ((1, 0, 1), (-3, -4), 25),
            ((1, 0, 5), (2, 3), 49),
            ((1, 0, 5), (3, 2), 29),
            ((5, 4, 1), (2, -5), 5),
            ((5, 4, 1), (-7, 9), 74),
            ((3, -5, 11), (10, -20), 5700),
        ]:
            with self.subTest(form=form, place=place):
                self.assertEqual(worth(form, place), answer)

    def test_at_nought_and_beside_it(self):
        for form in [(1, 1, 1), (2, -1, 3), (7, 0, 11), (10, 14, 5), (10**50, 3, 10**60)]:
            a, b, c = form
            with self.subTest(form=form):
                self.assertEqual(worth(form, (0, 0)), 0)
                self.assertEqual(worth(form, (1, 0)), a)
                self.assertEqual(worth(form, (-1, 0)), a)
                self.assertEqual(worth(form, (0, 1)), c)
                self.assertEqual(worth(form, (0, -1)), c)
                self.assertEqual(worth(form, (1, 1)), a + b + c)
                self.assertEqual(worth(form, (-1, -1)), a + b + c)
                self.assertEqual(worth(form, (1, -1)), a - b + c)
                self.assertEqual(worth(form, (-1, 1)), a - b + c)

    def test_above_nought_at_all_other_places(self):
        for x in range(-12, 13):
            for y in range(-12, 13):
                if (x, y) != (0, 0):
                    self.assertGreater(worth((10, -14, 5), (x, y)), 0)

    def test_great_numbers_to_the_last_figure(self):
        self.assertEqual(str(worth((1, 1, 1), (10**40, 1))), "1" + "0" * 39 + "1" + "0" * 39 + "1")
        self.assertEqual(str(worth((1, -1, 1), (10**40, 1))), "9" * 40 + "0" * 39 + "1")
        self.assertEqual(str(worth((10**1000, 1, 10**1000 + 7), (1, 10**1000))),
                         "1" + "0" * 999 + "7" + "0" * 999 + "2" + "0" * 1000)

    def test_numbers_of_four_thousand_figures(self):
        great = 10**4000 - 1
        self.assertTrue(worth((great, -great, great), (great, -great)) == 3 * great**3)
        self.assertTrue(worth((great, 1 - great, great), (great, great)) == great**3 + great**2)


class Bare(unittest.TestCase):
    def test_no_common_divisor_above_1(self):
        for form in [(1, 1, 1), (1, -1, 1), (1, 0, 1), (1, 0, 4), (2, 1, 3), (3, -1, 3), (2, 2, 3)]:
            with self.subTest(form=form):
                self.assertIs(is_bare(form), True)

    def test_a_common_divisor_above_1(self):
        for form in [(2, 2, 2), (2, -2, 2), (2, 0, 2), (3, 3, 6), (10, -15, 25), (49, 0, 7), (6, 4, 10)]:
            with self.subTest(form=form):
                self.assertIs(is_bare(form), False)

    def test_only_two_of_the_three_have_one(self):
        for form in [(2, 4, 3), (2, -4, 3), (3, 2, 4), (4, 1, 6), (6, 10, 15), (6, -10, 15), (10, 15, 6)]:
            with self.subTest(form=form):
                self.assertIs(is_bare(form), True)

    def test_a_middle_number_of_nought(self):
        for form, answer in [((1, 0, 6), True), ((2, 0, 3), True), ((4, 0, 9), True),
                             ((2, 0, 4), False), ((6, 0, 9), False), ((5, 0, 5), False)]:
            with self.subTest(form=form):
                self.assertIs(is_bare(form), answer)

    def test_great_numbers(self):
        self.assertIs(is_bare((10**40, 1, 10**40)), True)
        self.assertIs(is_bare((10**40, 10**10, 10**40 + 2)), False)
        self.assertIs(is_bare((2**13000, 5**5000, 3**8000)), True)
        self.assertIs(is_bare((7 * 2**13000, 7 * 5**5000, 7 * 3**8000)), False)
        self.assertIs(is_bare((7 * 2**13000, 7 * 5**5000, 3**8000)), True)


class WrongInputs(Refusing):
    def test_not_a_tuple_of_three(self):
        for value in [[1, 1, 1], (), (1,), (1, 1), (1, 1, 1, 1), ((1, 1, 1),), [(1, 1, 1)]]:
            with self.subTest(value=value):
                self.assert_refused(value)

    def test_another_kind(self):
        for value in [None, 1, 0, -3, True, False, "", "(1, 1, 1)", "[1, 1, 1]", "111", b"111", 1.5,
                      {}, {0: 1, 1: 1, 2: 1}, {1, 2, 3}, frozenset((1, 2, 3)), range(1, 4), iter((1, 1, 1)),
                      object(), tuple, NotAForm, worth]:
            with self.subTest(value=value):
                self.assert_refused(value)

    def test_true_or_false_in_any_of_the_three_places(self):
        for wrong in (True, False):
            for place in range(3):
                value = [1, 1, 1]
                value[place] = wrong
                with self.subTest(value=value):
                    self.assert_refused(tuple(value))
        self.assert_refused((True, False, True))

    def test_another_kind_among_the_three(self):
        for wrong in ["1", "", None, 1.0, float("nan"), 1j, Fraction(1), Decimal(1), (1,), [1], {}, b"1", object()]:
            for place in range(3):
                value = [1, 1, 1]
                value[place] = wrong
                with self.subTest(value=value):
                    self.assert_refused(tuple(value))

    def test_what_fails_at_whatever_it_is_asked(self):
        self.assert_refused(Hostile())
        for place in range(3):
            value = [1, 1, 1]
            value[place] = Hostile()
            self.assert_refused(tuple(value))

    def test_a_first_number_of_nought_and_below(self):
        for value in [(0, 0, 0), (0, 0, 1), (0, 1, 1), (0, 3, -2), (-1, 0, -1), (-1, 1, -1), (-2, -1, -3), (-1, 0, 1)]:
            with self.subTest(value=value):
                self.assert_refused(value)

    def test_a_bar_of_nought(self):
        for value in [(1, 0, 0), (1, 2, 1), (1, -2, 1), (4, 12, 9), (2, -4, 2)]:
            with self.subTest(value=value):
                self.assert_refused(value)

    def test_a_bar_above_nought(self):
        for value in [(1, 3, 2), (1, 1, 0), (1, -3, 1), (1, 0, -1), (5, 1, -1), (2, 5, 3)]:
            with self.subTest(value=value):
                self.assert_refused(value)

    def test_great_numbers_that_are_no_form(self):
        great = 10**3999
        for value in [(great, 3 * great, great), (great, 2 * great, great), (-great, 0, -great), (0, 0, great),
                      (great, great, True), (-(10**5000), 1, -(10**5000)), (1, 10**5000, 1)]:
            self.assert_refused(value)

    def test_a_wrong_form_is_refused_ahead_of_a_wrong_place(self):
        for place in [None, (), (1,), "11", 1]:
            with self.subTest(place=place):
                with self.assertRaises(NotAForm):
                    worth((1, 2, 1), place)

    def test_the_refusal_is_a_form_error_and_a_value_error(self):
        for taken in (FormError, ValueError):
            with self.assertRaises(taken):
                bar_of((1, 2, 1))


class HandedIn(Refusing):
    def test_a_list_that_is_refused_stays_as_it_was(self):
        value = [2, -1, 3]
        self.assert_refused(value)
        self.assertEqual(value, [2, -1, 3])

    def test_a_tuple_that_is_refused_stays_as_it_was(self):
        within = [1, 2]
        value = (within, 1, 1)
        self.assert_refused(value)
        self.assertIs(value[0], within)
        self.assertEqual(value, ([1, 2], 1, 1))

    def test_form_and_place_stay_as_they_were(self):
        form = (2, -1, 3)
        place = (-4, 5)
        for ignored in range(2):
            self.assertEqual(bar_of(form), -23)
            self.assertEqual(worth(form, place), 127)
            self.assertIs(is_bare(form), True)
        self.assertEqual(form, (2, -1, 3))
        self.assertEqual(place, (-4, 5))


if __name__ == "__main__":
    unittest.main()
