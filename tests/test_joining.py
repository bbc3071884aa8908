import unittest

from formturn.errors import NoBar, NotAForm, NotBare, OtherBar, OutOfBounds
from formturn.joining import joined, neutral, opposite, repeated
from formturn.least import is_least, least_of
from formturn.lists import classes
from tests.helper import NOT_BARS, NOT_FORMS, NOT_NUMBERS, form_by_values, turning_of, value_at

FAR = [turning_of(steps) for steps in [[], [1], [2, -3, 4], [-3, 11, -2], [10**6, -(10**7)], [10**40, 3, -(10**20)]]]
BARS = [-3, -4, -7, -12, -16, -20, -23, -47, -56, -84, -87, -108, -231, -260, -420]
PLACES = [(1, 0), (0, 1), (1, 1), (1, -1), (2, 1), (-3, 5), (7, 0), (0, -4), (10**20 + 1, -(10**19))]
# Great bare forms of two bars, of forty figures and more.
GREAT = [(10**40 + 1, 3, 10**41 + 7), (10**45 + 9, -(10**40), 10**39 + 1)]


def bar(form):
    a, b, c = form
    return b * b - 4 * a * c


def along(row, place, other):
    (x, y), (u, v) = place, other
    return row[0] * x * u + row[1] * x * v + row[2] * y * u + row[3] * y * v


class Joining(unittest.TestCase):
    def assert_joined(self, one, other):
        answer = joined(one, other)
        self.assertIsInstance(answer, tuple)
        joint, upper, lower = answer
        for row in (upper, lower):
            self.assertIsInstance(row, tuple)
            self.assertEqual(len(row), 4)
        self.assertTrue(is_least(joint))
        self.assertTrue(bar(joint) == bar(one))
        self.assertTrue(upper[0] * lower[1] - upper[1] * lower[0] == one[0])
        self.assertTrue(upper[0] * lower[2] - upper[2] * lower[0] == other[0])
        for place in PLACES:
            for second in PLACES:
                there = (along(upper, place, second), along(lower, place, second))
                self.assertTrue(value_at(one, place) * value_at(other, second) == value_at(joint, there),
                                (one, other, place, second))
        return joint

    def test_written_out(self):
        for one, other, joint in [
            ((1, 1, 1), (1, 1, 1), (1, 1, 1)),
            ((1, 0, 1), (1, 0, 1), (1, 0, 1)),
            ((2, 2, 3), (2, 2, 3), (1, 0, 5)),
            ((2, 1, 3), (2, 1, 3), (2, -1, 3)),
            ((2, 1, 3), (2, -1, 3), (1, 1, 6)),
            ((2, -1, 3), (2, -1, 3), (2, 1, 3)),
            ((2, 1, 6), (2, 1, 6), (3, -1, 4)),
            ((2, 1, 6), (3, -1, 4), (3, 1, 4)),
            ((2, 1, 6), (3, 1, 4), (2, -1, 6)),
            ((3, 2, 5), (3, 2, 5), (2, 0, 7)),
            ((3, 2, 5), (2, 0, 7), (3, -2, 5)),
        ]:
            with self.subTest(one=one, other=other):
                self.assertEqual(self.assert_joined(one, other), joint)
                self.assertEqual(self.assert_joined(other, one), joint)

    def test_every_two_classes(self):
        for low in BARS:
            for one in classes(low):
                for other in classes(low):
                    self.assertEqual(self.assert_joined(one, other), joined(other, one)[0])

    def test_forms_that_are_not_least(self):
        for low in [-3, -4, -20, -23, -47, -84, -260]:
            for one in classes(low):
                for other in classes(low):
                    joint = joined(one, other)[0]
                    for number, turning in enumerate(FAR):
                        first = form_by_values(one, turning)
                        second = form_by_values(other, FAR[(2 * number + 1) % len(FAR)])
                        self.assertEqual(self.assert_joined(first, second), joint)
                        self.assertEqual(self.assert_joined(first, other), joint)

    def test_common_divisors(self):
        # Of the numbers of a form two by two, of the first numbers of both forms, and of all that the joining asks.
        for one, other in [((6, 10, 15), (6, 10, 15)), ((6, 10, 15), (15, 10, 6)), ((6, 10, 15), (10, 10, 9)),
                           ((6, -10, 15), (6, 10, 15)), ((4, 2, 7), (4, -2, 7)), ((4, 2, 7), (4, 2, 7)),
                           ((15, 0, 1), (3, 0, 5)), ((15, 0, 7), (15, 0, 7)), ((15, 0, 7), (3, 0, 35)),
                           ((21, 0, 5), (35, 0, 3)), ((12, 12, 13), (12, -12, 13)), ((8, 8, 17), (8, 8, 17)),
                           ((30, 30, 11), (10, 10, 13)), ((36, 0, 25), (25, 0, 36))]:
            with self.subTest(one=one, other=other):
                self.assert_joined(one, other)
                self.assert_joined(other, one)

    def test_a_form_with_itself_and_with_its_mirror(self):
        for form in [(6, 10, 15), (7, 3, 11), (10, 14, 5), (25, 0, 36), GREAT[0], GREAT[1]]:
            self.assert_joined(form, form)
            mirror = (form[0], -form[1], form[2])
            self.assertEqual(self.assert_joined(form, mirror), neutral(bar(form)))

    def test_three_from_either_side(self):
        for low in [-47, -56, -84, -87, -260, -420]:
            forms = classes(low)
            for one in forms:
                for other in forms:
                    for third in forms[::2]:
                        self.assertEqual(joined(joined(one, other)[0], third)[0], joined(one, joined(other, third)[0])[0])

    def test_with_the_neutral_one_and_with_the_opposite(self):
        for low in BARS:
            still = neutral(low)
            for form in classes(low):
                self.assertEqual(self.assert_joined(form, still), form)
                self.assertEqual(self.assert_joined(still, form), form)
                self.assertEqual(self.assert_joined(form, opposite(form)), still)

    def test_great_forms(self):
        for form in GREAT:
            others = [repeated(form, times) for times in (1, 2, -3, 7)]
            for one in others:
                for other in others:
                    joint = self.assert_joined(one, other)
                    self.assertEqual(self.assert_joined(form_by_values(one, FAR[3]), form_by_values(other, FAR[5])), joint)

    def test_forms_of_some_thousand_figures(self):
        one = (10**3990 + 7, 10**3985 + 3, 10**3999 + 1)
        mirror = (one[0], -one[1], one[2])
        double = self.assert_joined(one, one)
        # The joint with the mirror is the neutral form, whose last number has twice as many figures.
        self.assertTrue(self.assert_joined(one, mirror) == neutral(bar(one)))
        self.assertTrue(self.assert_joined(double, mirror) == least_of(one)[0])


class Neutral(unittest.TestCase):
    def test_written_out(self):
        for low, answer in [(-3, (1, 1, 1)), (-4, (1, 0, 1)), (-7, (1, 1, 2)), (-8, (1, 0, 2)), (-23, (1, 1, 6)),
                            (-3999, (1, 1, 1000)), (-4000, (1, 0, 1000)), (-4003, (1, 1, 1001)), (-4004, (1, 0, 1001))]:
            self.assertEqual(neutral(low), answer)

    def test_great_bars(self):
        self.assertEqual(neutral(-4 * 10**50), (1, 0, 10**50))
        self.assertEqual(neutral(1 - 4 * 10**50), (1, 1, 10**50))
        self.assertTrue(neutral(-4 * 10**3999) == (1, 0, 10**3999))


class Opposite(unittest.TestCase):
    def test_written_out(self):
        for form, answer in [((2, 1, 3), (2, -1, 3)), ((2, -1, 3), (2, 1, 3)), ((1, 1, 6), (1, 1, 6)), ((2, 2, 3), (2, 2, 3)),
                             ((2, 1, 2), (2, 1, 2)), ((1, 0, 1), (1, 0, 1)), ((1, 1, 1), (1, 1, 1)), ((3, 1, 2), (2, 1, 3)),
                             ((3, 2, 5), (3, -2, 5)), ((1, 100, 2501), (1, 0, 1))]:
            self.assertEqual(opposite(form), answer)

    def test_of_alike_forms_and_of_the_opposite(self):
        for low in BARS:
            for form in classes(low):
                self.assertEqual(opposite(opposite(form)), form)
                for turning in FAR:
                    self.assertEqual(opposite(form_by_values(form, turning)), opposite(form))

    def test_of_great_forms(self):
        self.assertEqual(opposite((10**50, 3, 10**51)), (10**50, -3, 10**51))
        self.assertTrue(opposite((10**3998, -3, 10**3999)) == (10**3998, 3, 10**3999))


class Repeated(unittest.TestCase):
    def test_written_out(self):
        for form, times, answer in [
            ((2, 1, 3), 0, (1, 1, 6)), ((2, 1, 3), 1, (2, 1, 3)), ((2, 1, 3), 2, (2, -1, 3)), ((2, 1, 3), 3, (1, 1, 6)),
            ((2, 1, 3), -1, (2, -1, 3)), ((2, 1, 3), -2, (2, 1, 3)), ((2, 1, 3), 1000, (2, 1, 3)),
            ((2, 1, 3), -1000, (2, -1, 3)), ((2, 1, 3), 999, (1, 1, 6)), ((2, 1, 3), -999, (1, 1, 6)),
            ((2, 1, 6), 2, (3, -1, 4)), ((2, 1, 6), 3, (3, 1, 4)), ((2, 1, 6), 4, (2, -1, 6)),
            ((3, 1, 2), 0, (1, 1, 6)), ((3, 1, 2), 1, (2, -1, 3)), ((3, 1, 2), -1, (2, 1, 3)), ((10, 14, 5), 1, (1, 0, 1)),
        ]:
            with self.subTest(form=form, times=times):
                self.assertEqual(repeated(form, times), answer)

    def test_step_by_step(self):
        for low in BARS:
            for form in classes(low):
                forth = back = neutral(low)
                for times in range(0, 20):
                    self.assertEqual(repeated(form, times), forth)
                    self.assertEqual(repeated(form, -times), back)
                    forth = joined(forth, form)[0]
                    back = joined(back, opposite(form))[0]

    def test_sums_of_two_numbers(self):
        for form in [(2, 1, 6), (3, 2, 5), (6, 10, 15), (7, 3, 11), GREAT[0], GREAT[1]]:
            for one, other in [(3, 4), (5, -2), (-7, 7), (400, 600), (-999, -1), (1000, -1), (0, 13), (500, 500)]:
                both = joined(repeated(form, one), repeated(form, other))[0]
                self.assertEqual(repeated(form, one + other), both)

    def test_forms_that_are_not_least(self):
        for turning in FAR:
            form = form_by_values((2, 1, 6), turning)
            for times in (0, 1, -1, 2, 7, -8, 1000, -1000):
                self.assertEqual(repeated(form, times), repeated((2, 1, 6), times))

    def test_great_forms(self):
        form = (10**1500 + 7, 10**1495 + 3, 10**1499 + 1)
        forth = repeated(form, 1000)
        self.assertTrue(joined(repeated(form, 999), least_of(form)[0])[0] == forth)
        self.assertTrue(joined(forth, repeated(form, -1000))[0] == neutral(bar(form)))


class WrongInputs(unittest.TestCase):
    def test_no_form(self):
        good = (2, 1, 3)
        for number, wrong in enumerate(NOT_FORMS):
            for name, ask in [
                ("joined, the one", lambda: joined(wrong, good)), ("joined, the other", lambda: joined(good, wrong)),
                ("joined, both", lambda: joined(wrong, wrong)), ("opposite", lambda: opposite(wrong)),
                ("beside no bare form", lambda: joined((2, 2, 2), wrong)), ("and behind", lambda: joined(wrong, (2, 2, 2))),
                ("repeated", lambda: repeated(wrong, 2)), ("repeated too often", lambda: repeated(wrong, 1001)),
                ("repeated no number", lambda: repeated(wrong, None)),
            ]:
                with self.subTest(number=number, name=name):
                    with self.assertRaises(NotAForm):
                        ask()

    def test_other_bars_ahead_of_not_bare(self):
        for one, other in [((1, 1, 1), (1, 0, 1)), ((2, 2, 2), (1, 0, 1)), ((1, 1, 1), (2, 0, 2)), ((2, 2, 2), (2, 0, 2)),
                           ((2, 1, 3), (2, 2, 3)), ((10**40, 1, 10**40), (10**40, 3, 10**40))]:
            for first, second in [(one, other), (other, one)]:
                with self.assertRaises(OtherBar):
                    joined(first, second)

    def test_not_bare(self):
        for one, other in [((2, 2, 2), (1, 0, 3)), ((2, 0, 2), (1, 0, 4)), ((3, 3, 3), (1, 1, 7)), ((2, 2, 2), (2, 2, 2)),
                           ((2 * 10**40, 2, 2), (1, 0, 4 * 10**40 - 1))]:
            self.assertEqual(bar(one), bar(other))
            for first, second in [(one, other), (other, one)]:
                with self.assertRaises(NotBare):
                    joined(first, second)
        for form in [(2, 2, 2), (2, 0, 2), (6, 0, 9), (6, -4, 10), (2 * 10**40, 2, 2)]:
            for ask in [opposite, lambda one: repeated(one, 0), lambda one: repeated(one, 1), lambda one: repeated(one, -5)]:
                with self.assertRaises(NotBare):
                    ask(form)

    def test_not_bare_ahead_of_out_of_bounds(self):
        for times in [1001, -1001, True, None, "1"]:
            with self.assertRaises(NotBare):
                repeated((2, 2, 2), times)

    def test_times_out_of_bounds(self):
        for times in [1001, -1001, 10**50, -(10**50)] + NOT_NUMBERS:
            for form in [(2, 1, 3), (1, 0, 1), GREAT[0]]:
                with self.assertRaises(OutOfBounds):
                    repeated(form, times)

    def test_no_bar(self):
        for number, wrong in enumerate(NOT_BARS):
            with self.subTest(number=number):
                with self.assertRaises(NoBar):
                    neutral(wrong)

    def test_refused_again_with_a_good_question_between(self):
        for ignored in range(2):
            with self.assertRaises(OtherBar):
                joined((1, 1, 1), (1, 0, 1))
            self.assertEqual(joined((1, 1, 1), (1, 1, 1))[0], (1, 1, 1))


class HandedIn(unittest.TestCase):
    def test_forms_stay_as_they_were(self):
        one = (3, 1, 2)
        other = (2, 1, 3)
        first = (joined(one, other), opposite(one), repeated(one, 5))
        self.assertEqual((joined(one, other), opposite(one), repeated(one, 5)), first)
        self.assertEqual((one, other), ((3, 1, 2), (2, 1, 3)))


if __name__ == "__main__":
    unittest.main()
