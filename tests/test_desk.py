import unittest

from formturn.desk import LeastQuestion, Question, RoundQuestion, answered, tally
from formturn.errors import FormError, NoBar, NotAForm, NotBare, OutOfBounds
from formturn.notes import read
from tests.helper import NOT_FORMS, NOT_NUMBERS

WORDS = ["least", "alike", "joined", "round", "genus", "count"]


class Answered(unittest.TestCase):
    def assert_answers(self, pairs):
        for line, answer in pairs:
            with self.subTest(line=line):
                self.assertEqual(answered([line]), [answer])
        self.assertEqual(answered([line for line, answer in pairs]), [answer for line, answer in pairs])

    def test_least(self):
        self.assert_answers([
            ("least [10, 14, 5]", "[1, 0, 1]"), ("least [3, 1, 2]", "[2, -1, 3]"), ("least [3,1,2];[1,1,1]", "[2, -1, 3]"),
            ("least [1, 1, 1]; [3, 1, 2]; [1, 0, 1]", "[1, 1, 1]"), ("least   [ 3 , 1 , 2 ]  ", "[2, -1, 3]"),
            ("least [4, 0, 2]", "[2, 0, 4]"), ("least", "refused"), ("least ", "refused"), ("least    ", "refused"),
        ])

    def test_alike(self):
        self.assert_answers([
            ("alike [3, 1, 2]; [2, -1, 3]", "yes"), ("alike [3, 1, 2]; [2, 1, 3]", "no"), ("alike [1,1,1];[1,0,1]", "no"),
            ("alike [2, 2, 2] ; [2, -2, 2]", "yes"), ("alike [1,1,1];[1,1,1];[1,0,1]", "yes"),
            ("alike [1,0,1];[1,1,1];[1,1,1]", "no"), ("alike [1, 1, 1]", "refused"), ("alike", "refused"),
            ("alike ", "refused"), ("alike    ", "refused"),
        ])

    def test_joined(self):
        self.assert_answers([
            ("joined [2, 1, 3]; [2, 1, 3]", "[2, -1, 3]"), ("joined [2,1,3];[2,1,3];[2,1,3]", "[1, 1, 6]"),
            ("joined [2, 1, 6];[2, 1, 6];[2, 1, 6];[2, 1, 6]", "[2, -1, 6]"), ("joined [3, 1, 2]", "[2, -1, 3]"),
            ("joined [2, 1, 6]; [3, 1, 4]", "[2, -1, 6]"), ("joined [10, 14, 5]; [1, 0, 1]", "[1, 0, 1]"),
            # One alone is not joined, so it need not be bare.
            ("joined [4, 0, 2]", "[2, 0, 4]"), ("joined", "refused"), ("joined ", "refused"), ("joined   ", "refused"),
        ])

    def test_round(self):
        self.assert_answers([
            ("round [1, 1, 1]", "[1, 1, 1] 1"), ("round [3, 1, 2]", "[2, -1, 3] 3"), ("round [2,1,6];[1,1,1]", "[2, 1, 6] 5"),
            ("round [3, 2, 5]; [2, 2, 2]; [1, 0, 1001]", "[3, 2, 5] 4"), ("round [1, 0, 1000]", "[1, 0, 1000] 1"),
            ("round", "refused"), ("round ", "refused"), ("round   ", "refused"),
        ])

    def test_genus(self):
        self.assert_answers([
            ("genus [1, 1, 1]", "0"), ("genus [2, 2, 3]", "3"), ("genus [2, 2, 3]; [1, 0, 5]", "3"),
            ("genus [2, 2, 11];[1,1,1];[1,1,1]", "5"), ("genus [16, 0, 15625]", "0"), ("genus", "refused"),
            ("genus ", "refused"), ("genus   ", "refused"),
        ])

    def test_count(self):
        self.assert_answers([
            ("count", "0"), ("count ", "0"), ("count     ", "0"), ("count [1, 1, 1]", "1"), ("count [1,1,1];[1,0,1]", "2"),
            ("count [1,1,1];[1,0,1];[2,2,2]", "3"), ("count " + ";".join(["[1, 1, 1]"] * 12), "12"),
        ])

    def test_other_words(self):
        for word in ["", "Least", "LEAST", "leasts", "leas", "answer", "least;", "[1,", "forms", "bars", "refused", "\tleast",
                     "least\t", "least\n", "counts", "count,"]:
            for rest in ["", " ", " [1, 1, 1]", " [1, 1, 1]; [1, 1, 1]"]:
                with self.subTest(line=word + rest):
                    self.assertEqual(answered([word + rest]), ["refused"])
        for word in WORDS:
            with self.subTest(word=word):
                # The word stands ahead of the first blank: here that is nothing.
                self.assertEqual(answered([" " + word + " [1, 1, 1]; [1, 1, 1]", word + "\t[1, 1, 1]; [1, 1, 1]"]),
                                 ["refused", "refused"])

    def test_bars_and_bareness(self):
        self.assert_answers([
            ("joined [1, 1, 1]; [1, 0, 1]", "refused: bars"), ("joined [2, 2, 2]; [2, 0, 2]", "refused: bars"),
            ("joined [2, 2, 2]; [1, 0, 3]", "refused: bare"), ("joined [1, 0, 3]; [2, 2, 2]", "refused: bare"),
            ("joined [2, 2, 2]; [2, 2, 2]", "refused: bare"), ("joined [1,1,1];[1,1,1];[1,0,1]", "refused: bars"),
            # Two by two from the first on: the first two are refused first.
            ("joined [2, 2, 2]; [1, 0, 3]; [1, 1, 1]", "refused: bare"), ("joined [1,1,1];[1,0,1];[2,2,2]", "refused: bars"),
            ("round [2, 2, 2]", "refused: bare"), ("genus [2, 2, 2]", "refused: bare"), ("least [2, 2, 2]", "[2, 2, 2]"),
            ("genus [2, 0, 500002]", "refused: bare"),
        ])

    def test_too_low_a_bar(self):
        self.assert_answers([
            ("round [1, 0, 1001]", "refused"), ("round [2, 0, 1000]", "refused"), ("genus [1, 0, 250001]", "refused"),
            ("genus [1, 0, 1001]", "0"), ("least [1, 0, 250001]", "[1, 0, 250001]"),
        ])

    def test_forms_that_are_not_read(self):
        for word in WORDS:
            for rest in ["[1, 1, 01]", "[1, 1]", "[1, 2, 1]", "[1, 1, 1];", ";", ";[1, 1, 1]", "[1, 1, 1];;[1, 1, 1]",
                         "[1, 1, 1] [1, 1, 1]", "[1, 1, 1], [1, 1, 1]", "[1, 1, 1]; x", "[1, 1, 1];[1, 1, 1];[1, 1, 1];[0, 0, 0]",
                         "[1, 1, 1]; [1, 1, 1]\n", "[1, 1, 1];\t[1, 1, 1]", "\t", " \t ", "x", "[1, 1, 1]; [1, 1, 1]; ",
                         "(1, 1, 1); (1, 1, 1)", "[1, 1, +1]; [1, 1, 1]"]:
                with self.subTest(word=word, rest=rest):
                    self.assertEqual(answered([word + " " + rest]), ["refused"])

    def test_all_forms_are_read_ahead_of_any_other_refusal(self):
        self.assert_answers([
            ("joined [1, 1, 1]; [1, 0, 1]; [1, 2, 1]", "refused"), ("joined [2, 2, 2]; [1, 0, 3]; x", "refused"),
            ("round [2, 2, 2]; [1, 1, 01]", "refused"), ("genus [2, 2, 2];", "refused"),
            ("least [1, 1, 1]; [1, 1, 1]; [0, 0, 0]", "refused"),
        ])

    def test_widths(self):
        lines = ["least [10, 14, 5]", "alike [1,1,1];[1,1,1]", "alike [1,1,1];[1,0,1]", "genus [2, 2, 3]", "count",
                 "round [3, 1, 2]", "joined [2,1,3];[2,1,3]"]
        plain = ["[1, 0, 1]", "yes", "no", "3", "0", "[2, -1, 3] 3", "[2, -1, 3]"]
        self.assertEqual(answered(lines), plain)
        for width in [0, 1, 2, 3, 5, 9, 10, 12, 100]:
            self.assertEqual(answered(lines, width), [answer.rjust(width) for answer in plain])
            self.assertEqual(answered(lines, width=width), [answer.rjust(width) for answer in plain])
        self.assertEqual(answered(["count", "alike [1,1,1];[1,1,1]"], 5), ["    0", "  yes"])

    def test_a_refusal_beside_a_width(self):
        lines = ["least", "other", "joined [1,1,1];[1,0,1]", "round [2, 2, 2]", "count x", "count"]
        for width in [20, 100]:
            self.assertEqual(answered(lines, width),
                             ["refused", "refused", "refused: bars", "refused: bare", "refused", "0".rjust(width)])

    def test_great_numbers(self):
        great = "1" + "0" * 3999
        middle = "1" + "0" * 1000 + "1"
        self.assertEqual(answered([f"least [{great}, 1, {great}]", f"alike [{great}, 1, {great}]; [{great}, -1, {great}]",
                                   f"count [{great}, 1, {great}]"]), [f"[{great}, 1, {great}]", "yes", "1"])
        # The joint of a form and its mirror is the neutral form, whose last number has as many figures as the bar:
        # more than Python writes at once.
        answer = answered([f"joined [{great}, {middle}, {great}]; [{great}, -{middle}, {great}]"])[0]
        self.assertEqual(len(answer), len("[1, 1, ]") + 7998)
        self.assertTrue(read(answer) == (1, 1, 10**7998 - (int(middle) ** 2 - 1) // 4))
        self.assertEqual(answered(["least " + answer]), [answer])

    def test_no_lines_and_lines_that_stay_as_they_were(self):
        self.assertEqual(answered([]), [])
        self.assertEqual(answered([""]), ["refused"])
        lines = ["count", "least", "alike [1,1,1];[1,1,1]"]
        first = answered(lines)
        self.assertEqual(lines, ["count", "least", "alike [1,1,1];[1,1,1]"])
        kept = list(first)
        first.append("more")
        first[0] = None
        self.assertEqual(answered(lines), kept)

    def test_a_good_line_between_refused_ones(self):
        self.assertEqual(answered(["least", "count", "least", "count x", "count"]), ["refused", "0", "refused", "refused", "0"])

    def test_a_width_that_is_no_number(self):
        for wrong in NOT_NUMBERS:
            for lines in [["count"], ["least"], []]:
                with self.assertRaises(OutOfBounds):
                    answered(lines, wrong)

    def test_a_width_somewhat_beyond_is_not_refused(self):
        self.assertEqual(answered(["count"], 101), [" " * 100 + "0"])
        self.assertEqual(answered(["count"], -1), ["0"])


class Tally(unittest.TestCase):
    def test_in_order_of_first_coming(self):
        lines = ["round [1, 1, 1]", "count", "least x", "count ", "round", "alike", "count [", "genus;", "joined  ;"]
        answer = tally(lines)
        self.assertEqual(answer, [("round", 2), ("count", 3), ("least", 1), ("alike", 1), ("joined", 1)])
        self.assertIsInstance(answer, list)
        self.assertTrue(all(isinstance(one, tuple) for one in answer))

    def test_every_word_with_and_without_a_blank(self):
        for word in WORDS:
            self.assertEqual(tally([word, word + " ", word + "  x", word + " [1, 1, 1]"]), [(word, 4)])
        self.assertEqual(tally(WORDS), [(word, 1) for word in WORDS])
        self.assertEqual(tally(WORDS[::-1] + WORDS), [(word, 2) for word in WORDS[::-1]])

    def test_no_word_of_the_desk(self):
        self.assertEqual(tally(["", " ", " least", "Least", "leasts", "least;", "least\t", "least\tx", "least\n", "[1, 1, 1]",
                                "other", "leas t", "count,", "  count"]), [])
        self.assertEqual(tally([]), [])

    def test_lines_that_are_refused_count_too(self):
        self.assertEqual(tally(["least", "joined [1,1,1];[1,0,1]", "least [", "joined"]), [("least", 2), ("joined", 2)])

    def test_the_askers_own(self):
        lines = ["least", "count", "least"]
        first = tally(lines)
        first.append("more")
        first[0] = None
        self.assertEqual(tally(lines), [("least", 2), ("count", 1)])
        self.assertEqual(lines, ["least", "count", "least"])


class Questions(unittest.TestCase):
    def test_what_they_stand_under(self):
        self.assertEqual(LeastQuestion.__bases__, (Question,))
        self.assertEqual(RoundQuestion.__bases__, (LeastQuestion,))
        self.assertEqual(Question.__bases__, (object,))

    def test_told(self):
        for forms, many, least, way in [
            ([(1, 1, 1)], "1", "[1, 1, 1]", "[1, 1, 1] 1"),
            ([(3, 1, 2)], "1", "[2, -1, 3]", "[2, -1, 3] 3"),
            ([(3, 1, 2), (2, 2, 2)], "2", "[2, -1, 3]", "[2, -1, 3] 3"),
            ([(10, 14, 5), (1, 1, 1), (2, 1, 3)], "3", "[1, 0, 1]", "[1, 0, 1] 1"),
            ([(2, 1, 6)] * 11, "11", "[2, 1, 6]", "[2, 1, 6] 5"),
        ]:
            with self.subTest(forms=forms):
                self.assertEqual(Question(forms).told(), many)
                self.assertEqual(LeastQuestion(forms).told(), least)
                self.assertEqual(RoundQuestion(forms).told(), way)
        self.assertEqual(Question([]).told(), "0")

    def test_line_with_a_width_shorter_and_longer_than_the_answer(self):
        forms = [(3, 1, 2), (1, 1, 1)]
        for question, answer in [(Question(forms), "2"), (LeastQuestion(forms), "[2, -1, 3]"),
                                 (RoundQuestion(forms), "[2, -1, 3] 3")]:
            for width in [0, 1, 2, 9, 10, 11, 12, 13, 30, 100]:
                self.assertEqual(question.line(width), answer.rjust(width))
            self.assertEqual(question.told(), answer)
        self.assertEqual(Question(forms).line(4), "   2")
        self.assertEqual(RoundQuestion(forms).line(14), "  [2, -1, 3] 3")

    def test_the_line_is_what_told_says(self):
        class Other(Question):
            def told(self):
                return "other"

        self.assertEqual(Other([]).line(7), "  other")

    def test_what_is_handed_in(self):
        forms = [(3, 1, 2), (1, 1, 1)]
        questions = [Question(forms), LeastQuestion(forms), RoundQuestion(forms)]
        answers = [question.told() for question in questions]
        self.assertEqual(forms, [(3, 1, 2), (1, 1, 1)])
        forms[0] = (1, 0, 1)
        forms.append((1, 0, 1))
        self.assertEqual([question.told() for question in questions], answers)

    def test_what_is_no_form(self):
        for number, wrong in enumerate(NOT_FORMS):
            with self.subTest(number=number):
                for forms in [[wrong], [wrong, (1, 1, 1)], [(1, 1, 1), wrong]]:
                    with self.assertRaises(NotAForm):
                        Question(forms).told()
                    with self.assertRaises(NotAForm):
                        LeastQuestion(forms).told()
                    with self.assertRaises(NotAForm):
                        RoundQuestion(forms).line(5)

    def test_refusals_of_a_round(self):
        for form, refusal in [((2, 2, 2), NotBare), ((1, 0, 1001), NoBar), ((2, 0, 1000), NoBar)]:
            with self.assertRaises(refusal):
                RoundQuestion([form]).told()
            with self.assertRaises(refusal):
                RoundQuestion([form]).line(10)
        self.assertEqual(LeastQuestion([(2, 2, 2)]).told(), "[2, 2, 2]")

    def test_too_few_forms(self):
        for question in [LeastQuestion([]), RoundQuestion([])]:
            with self.assertRaises(FormError):
                question.told()
            with self.assertRaises(FormError):
                question.line(3)

    def test_a_width_that_is_no_number(self):
        for wrong in NOT_NUMBERS:
            with self.assertRaises(OutOfBounds):
                Question([]).line(wrong)


if __name__ == "__main__":
    unittest.main()
