import unittest

from formturn.errors import NotAForm, OutOfBounds
from formturn.places import places
from tests.helper import NOT_FORMS, NOT_NUMBERS, form_by_values, turning_of, value_at

FAR = [turning_of(steps) for steps in [[1], [2, -3, 4], [7] * 9, list(range(-20, 21)), [10**6, -(10**7)], [10**40, 3]]]


def looked_through(form, number, reach):
    return [(x, y) for x in range(-reach, reach + 1) for y in range(-reach, reach + 1)
            if value_at(form, (x, y)) == number]


class Places(unittest.TestCase):
    def assert_places(self, form, number, many):
        answer = places(form, number)
        self.assertIsInstance(answer, list)
        self.assertEqual(len(answer), many)
        self.assertTrue(answer == sorted(set(answer)))
        for place in answer:
            self.assertIsInstance(place, tuple)
            self.assertTrue(value_at(form, place) == number)

    def test_written_out(self):
        for form, number, answer in [
            ((1, 0, 1), 1, [(-1, 0), (0, -1), (0, 1), (1, 0)]),
            ((1, 0, 1), 2, [(-1, -1), (-1, 1), (1, -1), (1, 1)]),
            ((1, 0, 1), 3, []),
            ((1, 0, 1), 5, [(-2, -1), (-2, 1), (-1, -2), (-1, 2), (1, -2), (1, 2), (2, -1), (2, 1)]),
            ((1, 1, 1), 1, [(-1, 0), (-1, 1), (0, -1), (0, 1), (1, -1), (1, 0)]),
            ((1, 1, 1), 3, [(-2, 1), (-1, -1), (-1, 2), (1, -2), (1, 1), (2, -1)]),
            ((2, 1, 3), 2, [(-1, 0), (1, 0)]),
            ((2, 1, 3), 4, [(-1, 1), (1, -1)]),
            ((2, -1, 3), 4, [(-1, -1), (1, 1)]),
            ((2, 1, 3), 6, [(-1, -1), (1, 1)]),
            ((2, 1, 3), 5, []),
            ((5, 14, 10), 1, [(-3, 2), (-1, 1), (1, -1), (3, -2)]),
        ]:
            with self.subTest(form=form, number=number):
                self.assertEqual(places(form, number), answer)

    def test_nought_has_one_place_alone(self):
        great = 10**3999
        for form in [(1, 0, 1), (1, 1, 1), (10, 14, 5), (10001, 1, 10001), (great, -1, great), (1, 0, great),
                     form_by_values((2, -1, 3), FAR[3])]:
            self.assertEqual(places(form, 0), [(0, 0)])

    def test_small_forms_against_every_place_within_a_square(self):
        for a in range(1, 5):
            for b in range(-4, 5):
                for c in range(b * b // (4 * a) + 1, b * b // (4 * a) + 5):
                    form = (a, b, c)
                    for number in range(0, 21):
                        # 4 c times the worth is no less than -bar x x, and so for a and y: the square holds all places.
                        reach = max(x for x in range(200) if (4 * a * c - b * b) * x * x <= 4 * max(a, c) * number)
                        self.assertEqual(places(form, number), looked_through(form, number, reach), (form, number))

    def test_greater_numbers_against_a_square(self):
        for form in [(1, 0, 1), (1, 1, 1), (2, 1, 3), (2, -1, 3), (5, 5, 7), (1, 0, 100), (99, 0, 101)]:
            for number in [9999, 10000, 9973, 8450, 9797]:
                self.assertEqual(places(form, number), looked_through(form, number, 120), (form, number))

    def test_ten_thousand(self):
        self.assert_places((1, 0, 1), 10000, 20)
        self.assert_places((1, 1, 1), 10000, 6)
        self.assertEqual(places((10000, 0, 10001), 10000), [(-1, 0), (1, 0)])
        self.assertEqual(places((10000, 10000, 10000), 10000), [(-1, 0), (-1, 1), (0, -1), (0, 1), (1, -1), (1, 0)])
        self.assertEqual(places((1, 0, 10000), 10000), [(-100, 0), (0, -1), (0, 1), (100, 0)])
        self.assertEqual(places((10001, 0, 10001), 10000), [])

    def test_numbers_that_a_form_is_worth_nowhere(self):
        for number in [2, 5, 6, 8, 9998]:
            self.assertEqual(places((1, 1, 1), number), [])
        for number in [1, 2, 3, 10000]:
            self.assertEqual(places((10001, 1, 10**40), number), [])
            self.assertEqual(places((10**3999, 1, 10**3999), number), [])

    def test_a_great_last_number(self):
        self.assertEqual(places((1, 1, 10**3999), 9801), [(-99, 0), (99, 0)])
        self.assertEqual(places((1, 1, 10**3999), 9802), [])
        self.assertEqual(places((10**3999, 1, 1), 9801), [(0, -99), (0, 99)])

    def test_forms_turned_far_away(self):
        for least in [(1, 0, 1), (1, 1, 1), (2, 1, 3), (2, -1, 3), (3, 2, 3), (1, 0, 10**30)]:
            for turning in FAR:
                p, q, r, s = turning
                form = form_by_values(least, turning)
                for number in [0, 1, 3, 25, 10000]:
                    # A place of the form is one of the least form sent back.
                    back = sorted((s * x - q * y, p * y - r * x) for x, y in looked_through(least, number, 116))
                    self.assertEqual(places(form, number), back, (least, turning, number))

    def test_forms_of_some_thousand_figures(self):
        far = turning_of([k % 9 + 2 for k in range(2700)])
        self.assert_places(form_by_values((1, 0, 1), far), 10000, 20)
        self.assert_places(form_by_values((1, 1, 1), far), 7, 12)
        self.assert_places(form_by_values((2, -1, 3), far), 5, 0)

    def test_the_list_is_the_askers_own(self):
        for number in [0, 1, 5]:
            first = places((1, 0, 1), number)
            kept = list(first)
            first.append((7, 7))
            first[0] = None
            self.assertEqual(places((1, 0, 1), number), kept)
        empty = places((1, 0, 1), 3)
        empty.append((7, 7))
        self.assertEqual(places((1, 0, 1), 3), [])


class WrongInputs(unittest.TestCase):
    def test_what_is_no_form(self):
        for number, wrong in enumerate(NOT_FORMS):
            with self.subTest(number=number):
                with self.assertRaises(NotAForm):
                    places(wrong, 1)

    def test_numbers_out_of_bounds(self):
        for form in [(1, 0, 1), (2, 2, 2), (10**50, 1, 10**50)]:
            for wrong in [-1, 10001, -10000, 10**50, -(10**50), 10**5000]:
                with self.assertRaises(OutOfBounds):
                    places(form, wrong)

    def test_what_is_no_number(self):
        for number, wrong in enumerate(NOT_NUMBERS):
            with self.subTest(number=number):
                with self.assertRaises(OutOfBounds):
                    places((1, 0, 1), wrong)

    def test_no_form_ahead_of_a_number_out_of_bounds(self):
        for wrong in [None, (1, 2, 1), [1, 1, 1], (True, 1, 1)]:
            for number in [-1, 10001, True, "1", None]:
                with self.assertRaises(NotAForm):
                    places(wrong, number)

    def test_refused_again_with_a_good_question_between(self):
        for ignored in range(2):
            with self.assertRaises(OutOfBounds):
                places((1, 0, 1), 10001)
            self.assertEqual(places((1, 0, 1), 3), [])


if __name__ == "__main__":
    unittest.main()
