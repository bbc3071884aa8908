import unittest

from formturn.errors import NotAForm
from formturn.least import alike, is_least, least_of, own_turnings, smallest
from tests.helper import NOT_FORMS, form_by_values, product, turning_of, value_at

HALF = (-1, 0, 0, -1)
STILL = (1, 0, 0, 1)
FAR = [turning_of(steps) for steps in [
    [], [1], [-1], [2, -3, 4], [0, 0, 5], [7] * 9, [-3, 11, -2, 5, 1, -8, 40], list(range(-20, 21)),
    [10**6], [-(10**6) - 1, 10**7, 3 * 10**6], [10**40, -(10**41), 12345],
]]
# One form of each kind of edge: a = c, b = a, b = 0, all three the same, and the ones in between.
LEAST = [(1, 1, 1), (1, 0, 1), (1, 1, 2), (1, 0, 2), (2, 1, 3), (2, -1, 3), (2, 1, 2), (3, 2, 3), (2, 2, 3), (2, 0, 3),
         (5, 5, 5), (5, 0, 5), (4, 2, 4), (4, -3, 5), (5, 5, 7), (6, -5, 8), (3, 1, 1000), (3, -1, 10**30)]


def least_by_looking(a, b, c):
    return -a < b and b <= a and a <= c and not (a == c and b < 0)


def small_forms(greatest):
    return [(a, b, c) for a in range(1, greatest) for b in range(-greatest, greatest + 1)
            for c in range(b * b // (4 * a) + 1, b * b // (4 * a) + 1 + greatest)]


class IsLeast(unittest.TestCase):
    def test_least_ones(self):
        for form in LEAST:
            self.assertIs(is_least(form), True, form)

    def test_others(self):
        for form in [(1, -1, 1), (2, -1, 2), (2, -2, 2), (2, -2, 3), (3, 1, 2), (1, 2, 2), (1, -2, 2), (2, 3, 4),
                     (2, -3, 4), (5, -5, 7), (3, 0, 2), (7, -1, 7), (10, 14, 5), (10**40, -1, 10**40)]:
            self.assertIs(is_least(form), False, form)

    def test_every_small_form(self):
        for form in small_forms(7):
            self.assertIs(is_least(form), least_by_looking(*form), form)

    def test_great_edges(self):
        great = 10**3999
        for form, answer in [((great, great, great), True), ((great, -great, great), False),
                             ((great, 1 - great, great + 1), True), ((great, -great, great + 1), False),
                             ((great, -1, great), False), ((great, 1, great), True), ((great, 0, great), True),
                             ((great, great + 1, great), False), ((great + 1, 0, great), False)]:
            self.assertIs(is_least(form), answer)


class LeastOf(unittest.TestCase):
    def assert_leads(self, form, least, answer):
        self.assertIsInstance(answer, tuple)
        self.assertEqual(len(answer), 2)
        self.assertTrue(answer[0] == least)
        p, q, r, s = answer[1]
        self.assertIsInstance(answer[1], tuple)
        self.assertEqual(p * s - q * r, 1)
        self.assertTrue(form_by_values(form, answer[1]) == least)

    def test_least_already(self):
        for form in LEAST:
            with self.subTest(form=form):
                self.assert_leads(form, form, least_of(form))

    def test_written_out(self):
        for form, least in [
            ((1, -1, 1), (1, 1, 1)), ((2, -2, 2), (2, 2, 2)), ((2, -2, 3), (2, 2, 3)), ((5, -5, 7), (5, 5, 7)),
            ((2, -1, 2), (2, 1, 2)), ((3, -2, 3), (3, 2, 3)), ((3, 1, 2), (2, -1, 3)), ((3, -1, 2), (2, 1, 3)),
            ((7, 0, 5), (5, 0, 7)), ((10, 14, 5), (1, 0, 1)), ((7, -19, 13), (1, 1, 1)), ((1, 100, 2501), (1, 0, 1)),
            ((41, 1, 41), (41, 1, 41)), ((41, -1, 41), (41, 1, 41)), ((126, 38, 3), (3, -2, 6)),
        ]:
            with self.subTest(form=form):
                self.assert_leads(form, least, least_of(form))

    def test_every_small_form(self):
        for form in small_forms(6):
            answer = least_of(form)
            self.assertTrue(least_by_looking(*answer[0]), form)
            self.assert_leads(form, answer[0], answer)

    def test_forms_turned_far_away(self):
        for least in LEAST:
            for turning in FAR:
                form = form_by_values(least, turning)
                with self.subTest(least=least, form=form):
                    self.assert_leads(form, least, least_of(form))

    def test_one_long_step(self):
        for step in [10**6, -(10**6), 10**6 + 1, 10**40, -(10**1999)]:
            form = form_by_values((2, -1, 3), (1, step, 0, 1))
            self.assert_leads(form, (2, -1, 3), least_of(form))

    def test_forms_of_forty_figures(self):
        least = (10**40 + 1, -(10**40), 10**40 + 3)
        for turning in FAR:
            form = form_by_values(least, turning)
            self.assert_leads(form, least, least_of(form))

    def test_forms_of_some_thousand_figures(self):
        far = turning_of([k % 9 + 2 for k in range(2700)])
        form = form_by_values((2, -1, 3), far)
        self.assertGreater(form[0].bit_length(), 10000)
        self.assert_leads(form, (2, -1, 3), least_of(form))
        # Small steps make the numbers grow slowly, so the way back has many.
        slow = form_by_values((1, 1, 41), turning_of([3, -3] * 2000))
        self.assertGreater(slow[0].bit_length(), 11000)
        self.assert_leads(slow, (1, 1, 41), least_of(slow))
        great = (10**3999, -(10**3999) + 7, 10**3999 + 3)
        self.assert_leads(great, great, least_of(great))
        self.assert_leads((great[2], -great[1], great[0]), great, least_of((great[2], -great[1], great[0])))

    def test_great_edges(self):
        great = 10**3999
        for form, least in [((great, -great, great), (great, great, great)),
                            ((great, -1, great), (great, 1, great)),
                            ((great, -great, great + 1), (great, great, great + 1)),
                            ((great + 1, 0, great), (great, 0, great + 1))]:
            self.assert_leads(form, least, least_of(form))


class Alike(unittest.TestCase):
    def assert_alike(self, one, other):
        answer = alike(one, other)
        self.assertIsInstance(answer, tuple)
        self.assertEqual(len(answer), 2)
        self.assertIs(answer[0], True)
        p, q, r, s = answer[1]
        self.assertEqual(p * s - q * r, 1)
        self.assertTrue(form_by_values(one, answer[1]) == other)

    def test_alike_both_ways_round(self):
        for least in LEAST:
            for turning in FAR:
                form = form_by_values(least, turning)
                self.assert_alike(least, form)
                self.assert_alike(form, least)
                self.assert_alike(form, form)

    def test_neither_of_the_two_is_least(self):
        for least in LEAST:
            one = form_by_values(least, FAR[6])
            other = form_by_values(least, FAR[3])
            self.assert_alike(one, other)
            self.assert_alike(other, one)

    def test_not_alike_both_ways_round(self):
        for first, second in [((2, 1, 3), (2, -1, 3)), ((1, 1, 6), (2, 1, 3)), ((1, 0, 5), (2, 2, 3)),
                              ((1, 0, 1), (1, 1, 1)), ((2, 0, 2), (1, 0, 4)), ((4, -3, 5), (4, 3, 5))]:
            for turning in FAR:
                one = form_by_values(first, turning)
                other = form_by_values(second, FAR[5])
                self.assertEqual(alike(one, other), (False, first, second))
                self.assertEqual(alike(other, one), (False, second, first))
                self.assertIs(alike(one, other)[0], False)

    def test_every_two_least_ones(self):
        for one in LEAST:
            for other in LEAST:
                if one == other:
                    self.assert_alike(one, other)
                else:
                    self.assertEqual(alike(one, other), (False, one, other))

    def test_great_forms(self):
        far = turning_of([k % 9 + 2 for k in range(2000)])
        one = form_by_values((2, -1, 3), far)
        self.assert_alike(one, (2, -1, 3))
        self.assert_alike((2, -1, 3), one)
        self.assertEqual(alike(one, (2, 1, 3)), (False, (2, -1, 3), (2, 1, 3)))


class OwnTurnings(unittest.TestCase):
    def test_of_least_forms(self):
        six = [(-1, -1, 1, 0), HALF, (0, -1, 1, 1), (0, 1, -1, -1), STILL, (1, 1, -1, 0)]
        four = [HALF, (0, -1, 1, 0), (0, 1, -1, 0), STILL]
        for form in LEAST:
            a, b, c = form
            with self.subTest(form=form):
                self.assertEqual(own_turnings(form), six if a == b == c else four if a == c and b == 0 else [HALF, STILL])

    def test_against_every_turning_of_small_numbers(self):
        rows = range(-7, 8)
        turnings = [(p, q, r, s) for p in rows for q in rows for r in rows for s in rows if p * s - q * r == 1]
        for form in [(1, 1, 1), (1, -1, 1), (1, 0, 1), (3, 3, 1), (2, 2, 1), (3, 0, 3), (2, -2, 2), (2, 1, 3), (2, 1, 2),
                     (2, -1, 2), (1, 2, 2), (1, 3, 3), (2, 6, 5), (7, 5, 1), (3, -3, 4), (3, 3, 4)]:
            with self.subTest(form=form):
                self.assertEqual(own_turnings(form), [one for one in turnings if form_by_values(form, one) == form])

    def test_far_away_from_a_least_form(self):
        for least, many in [((1, 1, 1), 6), ((7, 7, 7), 6), ((1, 0, 1), 4), ((7, 0, 7), 4), ((2, 1, 3), 2), ((2, 1, 2), 2),
                            ((1, 1, 2), 2), ((2, 2, 3), 2), ((1, 0, 2), 2)]:
            for turning in FAR:
                form = form_by_values(least, turning)
                answer = own_turnings(form)
                self.assertIsInstance(answer, list)
                self.assertEqual(len(answer), many)
                self.assertEqual(answer, sorted(answer))
                self.assertEqual(len(set(answer)), many)
                for p, q, r, s in answer:
                    self.assertEqual(p * s - q * r, 1)
                    self.assertEqual(form_by_values(form, (p, q, r, s)), form)
                # The own ones are those that, one behind another, lead to no more.
                self.assertEqual(sorted({product(one, other) for one in answer for other in answer}), answer)

    def test_great_forms(self):
        form = form_by_values((1, 1, 1), turning_of([k % 9 + 2 for k in range(2000)]))
        answer = own_turnings(form)
        self.assertEqual(len(answer), 6)
        self.assertTrue(all(form_by_values(form, one) == form for one in answer))

    def test_the_list_is_the_askers_own(self):
        for form in [(1, 1, 1), (1, 0, 1), (2, 1, 3)]:
            first = own_turnings(form)
            kept = list(first)
            first.append("more")
            first[0] = None
            self.assertEqual(own_turnings(form), kept)


class Smallest(unittest.TestCase):
    def assert_smallest(self, form, number):
        answer = smallest(form)
        self.assertIsInstance(answer, tuple)
        self.assertTrue(answer[0] == number)
        self.assertIsInstance(answer[1], tuple)
        self.assertEqual(len(answer[1]), 2)
        self.assertTrue(value_at(form, answer[1]) == number)

    def test_of_least_forms(self):
        for form in LEAST:
            self.assert_smallest(form, form[0])

    def test_of_small_forms_against_every_place_near_by(self):
        near = [(x, y) for x in range(-12, 13) for y in range(-12, 13) if (x, y) != (0, 0)]
        for form in small_forms(4):
            self.assert_smallest(form, min(value_at(form, place) for place in near))

    def test_of_forms_that_are_no_least_ones(self):
        self.assert_smallest((10, 14, 5), 1)
        self.assert_smallest((126, 38, 3), 3)
        for least in LEAST:
            for turning in FAR:
                self.assert_smallest(form_by_values(least, turning), least[0])

    def test_of_great_forms(self):
        self.assert_smallest(form_by_values((2, -1, 3), turning_of([k % 9 + 2 for k in range(2700)])), 2)
        self.assert_smallest((10**3999 + 1, 3, 10**3999), 10**3999)


class WrongInputs(unittest.TestCase):
    def test_what_is_no_form(self):
        good = (2, 1, 3)
        for number, wrong in enumerate(NOT_FORMS):
            for name, ask in [
                ("is_least", lambda: is_least(wrong)),
                ("least_of", lambda: least_of(wrong)),
                ("own_turnings", lambda: own_turnings(wrong)),
                ("smallest", lambda: smallest(wrong)),
                ("alike, the one", lambda: alike(wrong, good)),
                ("alike, the other", lambda: alike(good, wrong)),
                ("alike, both", lambda: alike(wrong, wrong)),
            ]:
                with self.subTest(number=number, name=name):
                    with self.assertRaises(NotAForm):
                        ask()

    def test_refused_again_with_a_good_question_between(self):
        for ignored in range(2):
            with self.assertRaises(NotAForm):
                least_of((1, 2, 1))
            self.assertEqual(least_of((3, 1, 2))[0], (2, -1, 3))


class HandedIn(unittest.TestCase):
    def test_forms_stay_as_they_were(self):
        one = (10, 14, 5)
        other = (3, 1, 2)
        for ignored in range(2):
            self.assertEqual(least_of(one)[0], (1, 0, 1))
            self.assertEqual(alike(one, other), (False, (1, 0, 1), (2, -1, 3)))
            self.assertEqual(len(own_turnings(one)), 4)
            self.assertEqual(smallest(other)[0], 2)
        self.assertEqual((one, other), ((10, 14, 5), (3, 1, 2)))


if __name__ == "__main__":
    unittest.main()
