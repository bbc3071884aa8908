import math
import unittest

from formturn.errors import NoBar
from formturn.lists import classes, kept, least_forms
from tests.helper import NOT_BARS

LISTS = {
    -3: [(1, 1, 1)],
    -4: [(1, 0, 1)],
    -7: [(1, 1, 2)],
    -8: [(1, 0, 2)],
    -12: [(1, 0, 3), (2, 2, 2)],
    -15: [(1, 1, 4), (2, 1, 2)],
    -16: [(1, 0, 4), (2, 0, 2)],
    -20: [(1, 0, 5), (2, 2, 3)],
    -23: [(1, 1, 6), (2, -1, 3), (2, 1, 3)],
    -27: [(1, 1, 7), (3, 3, 3)],
    -36: [(1, 0, 9), (2, 2, 5), (3, 0, 3)],
    -39: [(1, 1, 10), (2, -1, 5), (2, 1, 5), (3, 3, 4)],
    -47: [(1, 1, 12), (2, -1, 6), (2, 1, 6), (3, -1, 4), (3, 1, 4)],
    -48: [(1, 0, 12), (2, 0, 6), (3, 0, 4), (4, 4, 4)],
    -56: [(1, 0, 14), (2, 0, 7), (3, -2, 5), (3, 2, 5)],
    -60: [(1, 0, 15), (2, 2, 8), (3, 0, 5), (4, 2, 4)],
    -92: [(1, 0, 23), (2, 2, 12), (3, -2, 8), (3, 2, 8), (4, -2, 6), (4, 2, 6)],
    -163: [(1, 1, 41)],
}
NOT_BARE = [(2, 2, 2), (2, 0, 2), (3, 3, 3), (3, 0, 3), (2, 0, 6), (4, 4, 4), (2, 2, 8), (4, 2, 4), (2, 2, 12), (4, -2, 6),
            (4, 2, 6)]


def least_by_looking(bar):
    # All forms of the bar with the first number no more than the last, by looking at each pair of a and c.
    found = []
    for a in range(1, -bar + 1):
        for c in range(a, -bar // 3 + 2):
            square = bar + 4 * a * c
            if 0 <= square <= a * a and math.isqrt(square) ** 2 == square:
                found += [(a, b, c) for b in {math.isqrt(square), -math.isqrt(square)}
                          if -a < b and not (a == c and b < 0)]
        if 3 * a * a > -bar:
            break
    return sorted(found)


def side(bar, number):
    # The bar's side by an odd number above nought, by turning it over and over.
    top, low, sign = bar % number, number, 1
    while top:
        while top % 2 == 0:
            top //= 2
            sign = -sign if low % 8 in (3, 5) else sign
        sign = -sign if top % 4 == low % 4 == 3 else sign
        top, low = low % top, top
    return sign if low == 1 else 0


def number_of_classes(bar):
    # Dirichlet's sum, for an odd bar that no square divides, below -3: by 2 the side is told by the bar by eight.
    by_two = 1 if bar % 8 == 1 else -1
    total = 0
    for number in range(1, -bar // 2 + 1):
        odd, sign = number, 1
        while odd % 2 == 0:
            odd, sign = odd // 2, sign * by_two
        total += sign * side(bar, odd)
    return total // (2 - by_two)


class LeastForms(unittest.TestCase):
    def test_written_out(self):
        for bar, answer in LISTS.items():
            with self.subTest(bar=bar):
                self.assertEqual(least_forms(bar), answer)

    def test_against_every_pair_looked_at(self):
        for bar in range(-3, -500, -1):
            if bar % 4 in (0, 1):
                answer = least_forms(bar)
                self.assertIsInstance(answer, list)
                self.assertEqual(answer, least_by_looking(bar), bar)

    def test_low_bars_against_every_pair_looked_at(self):
        for bar in [-3995, -3996, -3999, -4000]:
            self.assertEqual(least_forms(bar), least_by_looking(bar), bar)


class Classes(unittest.TestCase):
    def test_written_out(self):
        for bar, answer in LISTS.items():
            with self.subTest(bar=bar):
                self.assertEqual(classes(bar), [form for form in answer if form not in NOT_BARE])

    def test_the_bare_ones_in_their_order(self):
        for bar in [*range(-3, -500, -1), -3996, -3999, -4000]:
            if bar % 4 in (0, 1):
                answer = classes(bar)
                self.assertIsInstance(answer, list)
                self.assertEqual(answer, [form for form in least_by_looking(bar) if math.gcd(*form) == 1], bar)

    def test_how_many(self):
        # -4000 is -40 times ten squared, and by both 2 and 5 the side of -40 is nought: ten times its two classes.
        self.assertEqual(len(classes(-4000)), 20)
        for bar in [-7, -23, -71, -3299, -3999, -3995, -3991, -3983, -3959]:
            self.assertEqual(len(classes(bar)), number_of_classes(bar), bar)


class Kept(unittest.TestCase):
    def test_all_none_and_some(self):
        for bar in [-3, -4, -12, -47, -420, -4000]:
            self.assertEqual(kept(bar, lambda form: True), classes(bar))
            self.assertEqual(kept(bar, lambda form: False), [])
            self.assertEqual(kept(bar, lambda form: form[1] > 0), [form for form in classes(bar) if form[1] > 0])
        self.assertEqual(kept(-47, lambda form: form[0] == 2), [(2, -1, 6), (2, 1, 6)])
        self.assertEqual(kept(-47, lambda form: form[1] < 0), [(2, -1, 6), (3, -1, 4)])
        self.assertEqual(kept(-12, lambda form: form[0] == 2), [])

    def test_the_function_is_asked_of_each_class_once_in_their_order(self):
        asked = []

        def wanted(form):
            asked.append(form)
            return len(asked) % 2 == 0

        self.assertEqual(kept(-48, wanted), [(3, 0, 4)])
        self.assertEqual(asked, [(1, 0, 12), (3, 0, 4)])

    def test_the_function_is_not_asked_where_there_is_no_bar(self):
        asked = []
        for wrong in [-5, 0, -4003, -4004]:
            with self.assertRaises(NoBar):
                kept(wrong, asked.append)
        self.assertEqual(asked, [])


class TheAskersOwn(unittest.TestCase):
    def test_a_list_that_was_changed_does_not_change_later_answers(self):
        for ask in [least_forms, classes, lambda bar: kept(bar, lambda form: True)]:
            first = ask(-47)
            first.append("more")
            first[0] = None
            self.assertEqual(ask(-47), LISTS[-47])


class WrongInputs(unittest.TestCase):
    def assert_refused(self, wrong):
        for ask in [least_forms, classes, lambda bar: kept(bar, lambda form: True)]:
            with self.assertRaises(NoBar):
                ask(wrong)

    def test_no_bar(self):
        for number, wrong in enumerate(NOT_BARS):
            with self.subTest(number=number):
                self.assert_refused(wrong)

    def test_too_low_a_bar(self):
        for wrong in [-4003, -4004, -4007, -4008, -10000, -(10**50), 1 - 4 * 10**4500]:
            self.assert_refused(wrong)

    def test_refused_again_with_a_good_question_between(self):
        for ignored in range(2):
            self.assert_refused(-4003)
            self.assertEqual(classes(-20), [(1, 0, 5), (2, 2, 3)])


if __name__ == "__main__":
    unittest.main()
