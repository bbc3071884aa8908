import unittest

from formturn.errors import NoBar, NotAForm, NotWritten, OutOfBounds
from formturn.genus import genus_of
from formturn.group import round_of
from formturn.joining import joined
from formturn.lists import classes
from formturn.notes import read, table, written
from tests.helper import NOT_BARS, NOT_FORMS, NOT_NUMBERS, OTHER_KINDS

GREAT_FORMS = [
    (10**40, 1, 10**40), (10**63, -(10**63), 10**64), (10**64 - 1, 0, 10**64), (10**64, -(10**64) - 1, 10**65),
    (10**128 + 5, 7, 10**192), (3 * 10**3999 + 1, -(10**3998), 10**3999 + 12),
]


def plain(number):
    # Written figure by figure, for numbers of more figures than Python writes at once too.
    if number < 0:
        return "-" + plain(-number)
    half = 2000
    return str(number) if number < 10**half else plain(number // 10**half) + str(number % 10**half).zfill(half)


class Written(unittest.TestCase):
    def test_written_out(self):
        for form, text in [((1, 1, 1), "[1, 1, 1]"), ((2, -1, 3), "[2, -1, 3]"), ((1, 0, 5), "[1, 0, 5]"),
                           ((100, -20, 1000), "[100, -20, 1000]"), ((2, 2, 2), "[2, 2, 2]")]:
            self.assertEqual(written(form), text)

    def test_great_numbers(self):
        for form in GREAT_FORMS:
            self.assertEqual(written(form), str(list(form)))

    def test_more_figures_than_python_writes_at_once(self):
        # Joined with its mirror a form of four thousand figures makes the neutral one, of twice as many.
        form = (10**3999 + 7, 10**3900 + 3, 10**3999 + 1)
        joint = joined(form, (form[0], -form[1], form[2]))[0]
        self.assertTrue(joint[:2] == (1, 1))
        text = written(joint)
        self.assertTrue(text == "[1, 1, " + plain(joint[2]) + "]")
        self.assertEqual(len(text), len("[1, 1, ]") + 7998)
        self.assertTrue(read(text) == joint)
        low = (10**9000, -(10**8999) - 3, 10**9000)
        self.assertTrue(written(low) == "[" + ", ".join(plain(number) for number in low) + "]")

    def test_no_form(self):
        for number, wrong in enumerate(NOT_FORMS):
            with self.subTest(number=number):
                with self.assertRaises(NotAForm):
                    written(wrong)


class Read(unittest.TestCase):
    def assert_not_written(self, texts):
        for text in texts:
            with self.subTest(text=text):
                with self.assertRaises(NotWritten):
                    read(text)

    def test_written_out(self):
        for text, form in [
            ("[1, 1, 1]", (1, 1, 1)), ("[2, -1, 3]", (2, -1, 3)), ("[1,0,5]", (1, 0, 5)), (" [1, 1, 1]", (1, 1, 1)),
            ("[1, 1, 1] ", (1, 1, 1)), ("   [ 1 , 1 , 1 ]   ", (1, 1, 1)), ("[   10,-14   ,   5]", (10, -14, 5)),
            ("[1 ,-1,1]", (1, -1, 1)), ("[100, -20, 1000]", (100, -20, 1000)), ("[2, 0, 2]", (2, 0, 2)),
            ("[9, 8, 7]", (9, 8, 7)), ("[1, 0, 1234567890]", (1, 0, 1234567890)),
        ]:
            with self.subTest(text=text):
                answer = read(text)
                self.assertEqual(answer, form)
                self.assertIsInstance(answer, tuple)

    def test_both_ways(self):
        for form in [(a, b, c) for a in range(1, 12) for b in range(-6, 7) for c in range(b * b // (4 * a) + 1, 12)]:
            self.assertEqual(read(written(form)), form)
        for form in GREAT_FORMS:
            self.assertTrue(read(written(form)) == form)
            self.assertTrue(read("  [ " + " , ".join(plain(number) for number in form) + " ] ") == form)

    def test_every_number_of_figures_near_the_pieces(self):
        for figures in list(range(1, 10)) + list(range(60, 70)) + list(range(125, 132)) + [4000]:
            for number in (10 ** (figures - 1), 10**figures - 1, int(("1234567890" * 400)[:figures])):
                form = (number, -1, number)
                self.assertTrue(written(form) == "[" + plain(number) + ", -1, " + plain(number) + "]")
                self.assertTrue(read(written(form)) == form)

    def test_other_signs_at_the_ends_and_round_the_numbers(self):
        self.assert_not_written([
            "\t[1, 1, 1]", "[1, 1, 1]\t", "[1, 1, 1]\n", "\n[1, 1, 1]", "[1,\t1, 1]", "[1, 1\t, 1]", "[\t1, 1, 1]",
            "[1, 1, 1\t]", "[1,\n1, 1]", "[1, 1, 1\n]", "[1,\r1, 1]", "[1, 1, 1]\r", "[1,\x0b1, 1]", "[1,\x0c1, 1]",
            "[1,\u00a01, 1]", "\u00a0[1, 1, 1]", "[1,\u20031, 1]", "\u3000[1, 1, 1]", "[1, 1, 1]\x00", "\ufeff[1, 1, 1]",
        ])

    def test_numbers_of_another_form(self):
        self.assert_not_written([
            "[+1, 1, 1]", "[1, +1, 1]", "[1, 1, +1]", "[01, 1, 1]", "[1, 01, 1]", "[1, 1, 01]", "[1, -0, 1]", "[1, 00, 1]",
            "[1, -01, 1]", "[1, 0 0, 1]", "[1, - 1, 1]", "[1, --1, 1]", "[1, 1-, 1]", "[1, -, 1]", "[1, 1.0, 1]", "[1, 1., 1]",
            "[1, 1e0, 1]", "[1, 1_0, 100]", "[1, 0x1, 1]", "[1, 1 1, 100]", "[1, a, 1]", "[1, '1', 1]", "[1, True, 1]",
            "[1, None, 1]", "[1, 1L, 1]", "[1, \u22121, 1]", "[1, 0-1, 1]", "[-0, 0, 1]", "[000, 1, 1]", "[1, 1, 1 1]",
        ])

    def test_other_figures(self):
        self.assert_not_written(["[1, \u0661, 1]", "[\u0661, 1, 1]", "[1, 1, \uff11]", "[1, \u00b2, 5]", "[1, 1\u0661, 100]",
                                 "[1, -\u0966, 1]", "[1, \u2460, 1]", "[1, 1, \U0001d7cf]", "[1, \u00bd, 1]"])

    def test_brackets_and_commas(self):
        self.assert_not_written([
            "", " ", "[", "]", "[]", "[ ]", "[,]", "[,,]", "[ , , ]", "][", "[1]", "[1, 1]", "[1, 1, 1, 1]", "[1, 1, 1,]",
            "[,1, 1, 1]", "[1, , 1]", "[1,, 1]", "[1 1 1]", "[1; 1; 1]", "1, 1, 1", "(1, 1, 1)", "{1, 1, 1}", "<1, 1, 1>",
            "[1, 1, 1", "1, 1, 1]", "[[1, 1, 1]]", "[1, 1, 1]]", "[[1, 1, 1]", "[1, 1, 1][1, 1, 1]", "[1, 1, 1] [1, 1, 1]",
            "[1, 1, 1];", "[1, 1, 1] x", "x [1, 1, 1]", "[1, 1, 1)", "(1, 1, 1]", "[1, [1], 1]", "\uff3b1, 1, 1\uff3d",
            "[1\uff0c 1, 1]", "least [1, 1, 1]",
        ])

    def test_three_numbers_that_are_no_form(self):
        for text in ["[0, 0, 0]", "[0, 1, 1]", "[-1, 0, -1]", "[1, 2, 1]", "[1, 3, 2]", " [ 1 ,0, 0 ] ", "[1, 0, -1]",
                     "[-1, 1, -1]", "[1, 10000000000000000000000000000000000000000, 1]", "[1, " + "9" * 5000 + ", 1]"]:
            with self.subTest(text=text[:60]):
                with self.assertRaises(NotAForm):
                    read(text)

    def test_two_numbers_that_could_be_no_form_are_not_written(self):
        self.assert_not_written(["[0, 0]", "[-1, 0, -1, 0]", "[0, 0, 00]", "[-1, 0, -0]"])

    def test_what_is_no_text(self):
        for wrong in [one for one in OTHER_KINDS if not isinstance(one, str)] + [(1, 1, 1), [1, 1, 1], 1, ["[1, 1, 1]"]]:
            with self.assertRaises(NotWritten):
                read(wrong)

    def test_refused_again_with_a_good_question_between(self):
        for ignored in range(2):
            with self.assertRaises(NotWritten):
                read("[1, 1, 01]")
            self.assertEqual(read("[1, 1, 1]"), (1, 1, 1))


class Table(unittest.TestCase):
    def test_written_out(self):
        self.assertEqual(table(-3), ["001     1     1     1     1     0"])
        self.assertEqual(table(-20), ["001     1     0     5     1     0", "002     2     2     3     2     3"])
        self.assertEqual(table(-23, 6), ["001     1     1     6     1     0", "002     2    -1     3     3     0",
                                         "003     2     1     3     3     0"])
        self.assertEqual(table(-12), ["001     1     0     3     1     0"])
        self.assertEqual(table(-56, 3), ["001  1  0 14  1  0", "002  2  0  7  2  0", "003  3 -2  5  4  3", "004  3  2  5  4  3"])

    def test_widths(self):
        self.assertEqual(table(-56, 0), ["001101410", "00220720", "0033-2543", "00432543"])
        self.assertEqual(table(-56, 1), ["001101410", "00220720", "0033-2543", "00432543"])
        self.assertEqual(table(-56, 2), ["001 1 014 1 0", "002 2 0 7 2 0", "003 3-2 5 4 3", "004 3 2 5 4 3"])
        self.assertEqual(table(-20, 100)[1], "002" + "".join(" " * 99 + cell for cell in "22323"))
        self.assertEqual(table(-4000, 3)[0], "001  1  01000  1  0")
        self.assertEqual(table(-4000, width=4)[0], "001   1   01000   1   0")

    def test_against_the_classes(self):
        for low in [-3, -4, -12, -47, -71, -420, -3299, -3911, -3999, -4000]:
            for width in [0, 3, 6, 100]:
                answer = table(low, width)
                self.assertIsInstance(answer, list)
                self.assertEqual(len(answer), len(classes(low)))
                for number, (row, form) in enumerate(zip(answer, classes(low)), start=1):
                    cells = [*form, len(round_of(form)), genus_of(form)]
                    self.assertEqual(row, f"{number:03}" + "".join(str(cell).rjust(width) for cell in cells))

    def test_more_than_nine_rows(self):
        # No listed bar has a hundred classes: -3911 has the most of them.
        rows = table(-3911)
        self.assertEqual(len(rows), 83)
        self.assertEqual([row[:3] for row in rows], [f"{number:03}" for number in range(1, 84)])
        self.assertTrue(all(len(row) == 33 for row in rows))

    def test_the_list_is_the_askers_own(self):
        first = table(-23)
        kept = list(first)
        first.append("more")
        first[0] = None
        self.assertEqual(table(-23), kept)

    def test_no_bar(self):
        for number, wrong in enumerate(NOT_BARS + [-4003, -4004, -1000000, -(10**50)]):
            with self.subTest(number=number):
                with self.assertRaises(NoBar):
                    table(wrong)
                with self.assertRaises(NoBar):
                    table(wrong, 0)
                with self.assertRaises(NoBar):
                    table(wrong, None)

    def test_a_width_that_is_no_number(self):
        for wrong in NOT_NUMBERS:
            with self.assertRaises(OutOfBounds):
                table(-23, wrong)

    def test_a_width_somewhat_beyond_is_not_refused(self):
        self.assertEqual(table(-3, 101), ["001" + "".join(" " * 100 + cell for cell in "11110")])
        self.assertEqual(table(-3, -1), table(-3, 0))


if __name__ == "__main__":
    unittest.main()
