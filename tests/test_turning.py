import unittest

from formturn.errors import FormError, NotAForm, NotATurning
from formturn.forms import bar_of, worth
from formturn.turning import behind, turned, way_back
from tests.helper import NOT_FORMS, NOT_TURNINGS, SQUARE, form_by_values, turning_of

STILL = (1, 0, 0, 1)
FORMS = [(1, 1, 1), (1, 0, 1), (2, 1, 3), (2, -1, 3), (5, 14, 10), (7, -19, 13), (6, 0, 6), (4, 4, 4), (1, 0, 10**30)]
TURNINGS = [STILL, (-1, 0, 0, -1), (0, -1, 1, 0), (0, 1, -1, 0), (1, 1, 0, 1), (1, 0, 1, 1), (1, -3, 0, 1), (2, 3, 1, 2),
            (2, 1, 5, 3), (-7, 3, 2, -1), (5, 7, 2, 3), (1, 10**6, 0, 1), (10**20, -1, 1, 0), (3, 10**15 * 3 - 1, 1, 10**15)]


def sends(turning, place):
    (p, q, r, s), (x, y) = turning, place
    return (p * x + q * y, r * x + s * y)


class Turned(unittest.TestCase):
    def test_written_out(self):
        for form, turning, answer in [
            ((1, 0, 1), STILL, (1, 0, 1)),
            ((2, 1, 3), (0, -1, 1, 0), (3, -1, 2)),
            ((2, 1, 3), (0, 1, -1, 0), (3, -1, 2)),
            ((2, 1, 3), (1, 1, 0, 1), (2, 5, 6)),
            ((2, 1, 3), (1, 0, 1, 1), (6, 7, 3)),
            ((2, 1, 3), (1, -1, 0, 1), (2, -3, 4)),
            ((1, 0, 1), (2, 3, 1, 2), (5, 16, 13)),
            ((1, 1, 1), (2, 1, 5, 3), (39, 45, 13)),
            ((3, -2, 5), (5, 7, 2, 3), (75, 212, 150)),
        ]:
            with self.subTest(form=form, turning=turning):
                self.assertEqual(turned(form, turning), answer)

    def test_worth_at_a_place_what_the_first_is_worth_where_it_is_sent(self):
        for form in FORMS:
            for turning in TURNINGS:
                answer = turned(form, turning)
                self.assertIsInstance(answer, tuple)
                self.assertEqual(len(answer), 3)
                self.assertEqual(bar_of(answer), bar_of(form))
                for place in SQUARE:
                    self.assertEqual(worth(answer, place), worth(form, sends(turning, place)), (form, turning, place))

    def test_great_numbers(self):
        turning = turning_of([10**6 + k for k in range(150)])
        form = (10**900 + 7, 3, 10**950)
        self.assertGreater(turning[0].bit_length(), 2900)
        answer = turned(form, turning)
        self.assertTrue(answer == form_by_values(form, turning))
        self.assertTrue(turned(answer, way_back(turning)) == form)

    def test_numbers_of_four_thousand_figures(self):
        great = 10**3999
        self.assertTrue(turned((1, 0, 1), (1, great, 0, 1)) == (1, 2 * great, great * great + 1))
        self.assertTrue(turned((great, 1, great), (0, -1, 1, 0)) == (great, -1, great))


class Behind(unittest.TestCase):
    def test_written_out_and_not_the_other_way_round(self):
        self.assertEqual(behind((1, 1, 0, 1), (0, -1, 1, 0)), (1, -1, 1, 0))
        self.assertEqual(behind((0, -1, 1, 0), (1, 1, 0, 1)), (0, -1, 1, 1))
        self.assertEqual(behind((2, 3, 1, 2), (5, 7, 2, 3)), (16, 23, 9, 13))
        self.assertEqual(behind((5, 7, 2, 3), (2, 3, 1, 2)), (17, 29, 7, 12))

    def test_sends_where_the_one_sends_what_the_other_sends_it_to(self):
        for one in TURNINGS:
            for other in TURNINGS:
                answer = behind(one, other)
                self.assertIsInstance(answer, tuple)
                for place in SQUARE[::5]:
                    self.assertEqual(sends(answer, place), sends(one, sends(other, place)), (one, other, place))

    def test_leads_where_first_the_one_then_the_other_leads(self):
        for form in FORMS:
            for one in TURNINGS:
                for other in TURNINGS:
                    self.assertEqual(turned(form, behind(one, other)), turned(turned(form, one), other))

    def test_three_from_either_side(self):
        for one in TURNINGS:
            for other in TURNINGS[:8]:
                for third in TURNINGS:
                    self.assertEqual(behind(behind(one, other), third), behind(one, behind(other, third)))

    def test_standing_still(self):
        for turning in TURNINGS:
            self.assertEqual(behind(STILL, turning), turning)
            self.assertEqual(behind(turning, STILL), turning)


class WayBack(unittest.TestCase):
    def test_written_out(self):
        self.assertEqual(way_back((2, 3, 1, 2)), (2, -3, -1, 2))
        self.assertEqual(way_back((5, 7, 2, 3)), (3, -7, -2, 5))
        self.assertEqual(way_back((0, -1, 1, 0)), (0, 1, -1, 0))
        self.assertEqual(way_back(STILL), STILL)

    def test_sends_each_place_back_from_either_side(self):
        for turning in TURNINGS:
            back = way_back(turning)
            for place in SQUARE:
                self.assertEqual(sends(back, sends(turning, place)), place)
                self.assertEqual(sends(turning, sends(back, place)), place)
            self.assertEqual(behind(turning, back), STILL)
            self.assertEqual(behind(back, turning), STILL)
            self.assertEqual(way_back(back), turning)

    def test_leads_each_form_back(self):
        for form in FORMS:
            for turning in TURNINGS:
                self.assertEqual(turned(turned(form, turning), way_back(turning)), form)


class WrongInputs(unittest.TestCase):
    def test_what_is_no_turning(self):
        for number, wrong in enumerate(NOT_TURNINGS):
            for name, ask in [
                ("turned", lambda: turned((1, 1, 1), wrong)),
                ("way_back", lambda: way_back(wrong)),
                ("behind it", lambda: behind(wrong, STILL)),
                ("it behind", lambda: behind(STILL, wrong)),
                ("both", lambda: behind(wrong, wrong)),
            ]:
                with self.subTest(number=number, name=name):
                    with self.assertRaises(NotATurning):
                        ask()

    def test_what_is_no_form(self):
        for number, wrong in enumerate(NOT_FORMS):
            with self.subTest(number=number):
                with self.assertRaises(NotAForm):
                    turned(wrong, STILL)

    def test_no_form_ahead_of_no_turning(self):
        for wrong in [None, (1, 2, 1), [1, 1, 1], (True, 1, 1), STILL]:
            for turning in [None, (2, 0, 0, 1), [1, 0, 0, 1], "1001", (True, 0, 0, 1)]:
                with self.subTest(wrong=wrong, turning=turning):
                    with self.assertRaises(NotAForm):
                        turned(wrong, turning)

    def test_refused_again_with_a_good_question_between(self):
        for ignored in range(2):
            with self.assertRaises(FormError):
                turned((1, 1, 1), (2, 0, 0, 1))
            self.assertEqual(turned((1, 1, 1), (1, 1, 0, 1)), (1, 3, 3))


class HandedIn(unittest.TestCase):
    def test_what_is_handed_in_stays_as_it_was(self):
        form = (2, 1, 3)
        one = (2, 3, 1, 2)
        other = (5, 7, 2, 3)
        first = (turned(form, one), behind(one, other), way_back(one))
        self.assertEqual((turned(form, one), behind(one, other), way_back(one)), first)
        self.assertEqual((form, one, other), ((2, 1, 3), (2, 3, 1, 2), (5, 7, 2, 3)))

    def test_a_list_that_is_refused_stays_as_it_was(self):
        wrong = [1, 0, 0, 1]
        with self.assertRaises(NotATurning):
            turned((1, 1, 1), wrong)
        self.assertEqual(wrong, [1, 0, 0, 1])


if __name__ == "__main__":
    unittest.main()
