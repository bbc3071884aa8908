import unittest

from formturn.errors import NoBar, NotAForm, NotBare
from formturn.group import lengths, parted, round_of
from formturn.joining import joined, neutral, repeated
from formturn.lists import classes
from tests.helper import NOT_BARS, NOT_FORMS, form_by_values, turning_of

FAR = [turning_of(steps) for steps in [[1], [2, -3, 4], [10**6, -(10**7)], [10**40, 3, -(10**20)], [5] * 600]]
SOME = [low for low in range(-3, -260, -1) if low % 4 in (0, 1)] + [-420, -3299, -3315, -3896, -3999, -4000]


class Rounds(unittest.TestCase):
    def test_written_out(self):
        for form, answer in [
            ((1, 1, 1), [(1, 1, 1)]),
            ((1, 0, 1), [(1, 0, 1)]),
            ((10, 14, 5), [(1, 0, 1)]),
            ((1, 0, 5), [(1, 0, 5)]),
            ((2, 2, 3), [(2, 2, 3), (1, 0, 5)]),
            ((2, 1, 3), [(2, 1, 3), (2, -1, 3), (1, 1, 6)]),
            ((3, 1, 2), [(2, -1, 3), (2, 1, 3), (1, 1, 6)]),
            ((2, 1, 6), [(2, 1, 6), (3, -1, 4), (3, 1, 4), (2, -1, 6), (1, 1, 12)]),
            ((3, 2, 5), [(3, 2, 5), (2, 0, 7), (3, -2, 5), (1, 0, 14)]),
        ]:
            with self.subTest(form=form):
                self.assertEqual(round_of(form), answer)

    def test_up_to_the_neutral_form(self):
        for low in SOME:
            last = neutral(low)
            for form in classes(low):
                answer = round_of(form)
                self.assertIsInstance(answer, list)
                self.assertEqual(answer[0], form)
                self.assertEqual(answer[-1], last)
                self.assertEqual(answer.index(last), len(answer) - 1)
                for one, following in zip(answer, answer[1:]):
                    self.assertEqual(joined(one, form)[0], following)

    def test_forms_that_are_not_least(self):
        for form in [(2, 1, 6), (3, 2, 5), (1, 1, 1), (2, -1, 500)]:
            for turning in FAR:
                self.assertEqual(round_of(form_by_values(form, turning)), round_of(form))

    def test_against_repeated(self):
        for form in [(2, 1, 500), (7, 3, 11), (6, 10, 15)]:
            answer = round_of(form)
            self.assertEqual(answer, [repeated(form, times) for times in range(1, len(answer) + 1)])


class Lengths(unittest.TestCase):
    def test_written_out(self):
        for low, answer in [
            (-3, {1: 1}), (-4, {1: 1}), (-12, {1: 1}), (-20, {1: 1, 2: 1}), (-23, {1: 1, 3: 2}), (-47, {1: 1, 5: 4}),
            (-56, {1: 1, 2: 1, 4: 2}), (-87, {1: 1, 2: 1, 3: 2, 6: 2}), (-420, {1: 1, 2: 7}),
            (-3299, {1: 1, 3: 8, 9: 18}), (-3896, {1: 1, 2: 1, 3: 8, 4: 2, 6: 8, 12: 16}),
        ]:
            with self.subTest(low=low):
                self.assertEqual(list(lengths(low).items()), list(answer.items()))

    def test_against_the_rounds_the_shortest_first(self):
        for low in SOME:
            many = [len(round_of(form)) for form in classes(low)]
            answer = lengths(low)
            self.assertIsInstance(answer, dict)
            self.assertEqual(list(answer.items()), [(length, many.count(length)) for length in sorted(set(many))], low)


class Parted(unittest.TestCase):
    def assert_parted(self, low):
        answer = parted(low)
        self.assertIsInstance(answer, list)
        ahead = 0
        made = [neutral(low)]
        for part in answer:
            self.assertIsInstance(part, tuple)
            form, length = part
            self.assertIn(form, classes(low))
            self.assertEqual(length, len(round_of(form)))
            self.assertGreater(length, 1)
            self.assertEqual(ahead % length, 0)
            ahead = length
            so_many = [neutral(low)] + round_of(form)[:-1]
            made = [joined(one, other)[0] for one in made for other in so_many]
        # Each class once: so in just one way.
        self.assertEqual(sorted(made), sorted(classes(low)))
        return [length for form, length in answer]

    def test_a_bar_with_one_class(self):
        for low in [-3, -4, -7, -8, -11, -12, -16, -19, -27, -28, -43, -67, -163]:
            self.assertEqual(parted(low), [])

    def test_how_long_the_parts_are(self):
        for low, answer in [(-20, [2]), (-23, [3]), (-47, [5]), (-56, [4]), (-84, [2, 2]), (-87, [6]), (-420, [2, 2, 2]),
                            (-3299, [9, 3]), (-3896, [12, 3]), (-3315, [2, 2, 2]), (-260, [4, 2]), (-1092, [2, 2, 2]),
                            (-2379, [4, 4])]:
            with self.subTest(low=low):
                self.assertEqual(self.assert_parted(low), answer)

    def test_every_bar_down_to_some_hundreds(self):
        for low in range(-3, -700, -1):
            if low % 4 in (0, 1):
                self.assert_parted(low)

    def test_low_bars(self):
        for low in [-3360, -3600, -3840, -3536, -3795, -3864, -3927, -3952, -3960, -3984, -3995, -3996, -3999, -4000]:
            self.assert_parted(low)


class TheAskersOwn(unittest.TestCase):
    def test_what_was_answered_and_changed_does_not_change_later_answers(self):
        for low in [-3, -420, -47]:
            form = classes(low)[-1]
            kept = (round_of(form), dict(lengths(low)), parted(low))
            way = round_of(form)
            way[0] = None
            way.append("more")
            many = lengths(low)
            many[1] = 100
            many[77] = 1
            parts = parted(low)
            parts.append("more")
            parts[0] = None
            self.assertEqual((round_of(form), lengths(low), parted(low)), kept)


class WrongInputs(unittest.TestCase):
    def test_no_form(self):
        for number, wrong in enumerate(NOT_FORMS):
            with self.subTest(number=number):
                with self.assertRaises(NotAForm):
                    round_of(wrong)

    def test_a_round_below_the_lowest_bar(self):
        for form in [(1, 1, 1001), (1, 0, 1001), (7, 1, 143), (10**40, 1, 10**40)]:
            with self.assertRaises(NoBar):
                round_of(form)
        self.assertEqual(round_of((1, 0, 1000)), [(1, 0, 1000)])
        self.assertEqual(round_of((1, 1, 1000)), [(1, 1, 1000)])

    def test_too_low_ahead_of_not_bare(self):
        for form in [(2, 0, 1000), (3, 3, 3000), (10**40, 10**39, 10**41)]:
            with self.assertRaises(NoBar):
                round_of(form)

    def test_not_bare(self):
        for form in [(2, 2, 2), (2, 0, 2), (2, 0, 500), (10, 0, 100), (6, 4, 10)]:
            with self.assertRaises(NotBare):
                round_of(form)

    def test_no_bar(self):
        for number, wrong in enumerate(NOT_BARS + [-4003, -4004, -(10**50)]):
            for ask in [lengths, parted]:
                with self.subTest(number=number):
                    with self.assertRaises(NoBar):
                        ask(wrong)

    def test_refused_again_with_a_good_question_between(self):
        for ignored in range(2):
            with self.assertRaises(NoBar):
                lengths(-4003)
            self.assertEqual(lengths(-23), {1: 1, 3: 2})


if __name__ == "__main__":
    unittest.main()
