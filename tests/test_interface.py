"""The names and arguments of the interface, and every refusal that it names, one and two at once."""

import importlib
import inspect
import unittest

from formturn import errors
from tests.helper import NOT_BARS, NOT_FORMS, NOT_NUMBERS, NOT_TURNINGS

INTERFACE = {
    "forms": {"bar_of": "(form)", "worth": "(form, place)", "is_bare": "(form)"},
    "turning": {"turned": "(form, turning)", "behind": "(one, other)", "way_back": "(turning)"},
    "least": {"is_least": "(form)", "least_of": "(form)", "alike": "(one, other)", "own_turnings": "(form)",
              "smallest": "(form)"},
    "places": {"places": "(form, number)"},
    "lists": {"least_forms": "(bar)", "classes": "(bar)", "kept": "(bar, wanted)"},
    "joining": {"joined": "(one, other)", "neutral": "(bar)", "opposite": "(form)", "repeated": "(form, times)"},
    "group": {"round_of": "(form)", "parted": "(bar)", "lengths": "(bar)"},
    "genus": {"marks_of": "(bar)", "genus_of": "(form)", "same_genus": "(form)", "halved": "(form)"},
    "primes": {"prime_told": "(bar, prime)", "ways": "(bar, number)", "ways_sum": "(bar, number)"},
    "notes": {"written": "(form)", "read": "(text)", "table": "(bar, width=6)"},
    "desk": {"answered": "(lines, width=0)", "tally": "(lines)", "Question": "(forms)", "LeastQuestion": "(forms)",
             "RoundQuestion": "(forms)"},
}

STILL = (1, 0, 0, 1)
TOO_LOW_LISTED = [-4003, -4004, -(10**50)]
TOO_LOW_MARKED = [-1000003, -1000004, -(10**50)]
LOW_FORMS = [(1, 1, 1001), (1, 0, 1001), (10**30, 1, 10**30)]
LOWEST_FORMS = [(1, 1, 250001), (1, 0, 250001), (10**30, 1, 10**30)]
NOT_BARE = [(2, 2, 2), (2, 0, 2), (6, 4, 10)]
NOT_BARE_LOW = [(2, 0, 1000), (2, 2, 2000), (10**30, 10**29, 10**30)]
NOT_BARE_LOWEST = [(2, 0, 500002), (10**30, 10**29, 10**30)]
BAD_TIMES = [-1001, 1001, 10**30] + NOT_NUMBERS
BAD_NUMBERS = [-1, 10001, 10**30] + NOT_NUMBERS
BAD_PRIMES = [2, 9, 10007, -7, 0] + NOT_NUMBERS

# Name, good arguments, then each refusal in the order told: its class, and what to put in the place of which argument.
REFUSALS = [
    ("forms.bar_of", [(2, 1, 3)], [("NotAForm", 0, NOT_FORMS)]),
    ("forms.worth", [(2, 1, 3), (1, 1)], [("NotAForm", 0, NOT_FORMS)]),
    ("forms.is_bare", [(2, 1, 3)], [("NotAForm", 0, NOT_FORMS)]),
    ("turning.turned", [(2, 1, 3), STILL], [("NotAForm", 0, NOT_FORMS), ("NotATurning", 1, NOT_TURNINGS)]),
    ("turning.behind", [STILL, STILL], [("NotATurning", 0, NOT_TURNINGS), ("NotATurning", 1, NOT_TURNINGS)]),
    ("turning.way_back", [STILL], [("NotATurning", 0, NOT_TURNINGS)]),
    ("least.is_least", [(2, 1, 3)], [("NotAForm", 0, NOT_FORMS)]),
    ("least.least_of", [(2, 1, 3)], [("NotAForm", 0, NOT_FORMS)]),
    ("least.alike", [(2, 1, 3), (2, 1, 3)], [("NotAForm", 0, NOT_FORMS), ("NotAForm", 1, NOT_FORMS)]),
    ("least.own_turnings", [(2, 1, 3)], [("NotAForm", 0, NOT_FORMS)]),
    ("least.smallest", [(2, 1, 3)], [("NotAForm", 0, NOT_FORMS)]),
    ("places.places", [(2, 1, 3), 6], [("NotAForm", 0, NOT_FORMS), ("OutOfBounds", 1, BAD_NUMBERS)]),
    ("lists.least_forms", [-23], [("NoBar", 0, NOT_BARS + TOO_LOW_LISTED)]),
    ("lists.classes", [-23], [("NoBar", 0, NOT_BARS + TOO_LOW_LISTED)]),
    ("lists.kept", [-23, bool], [("NoBar", 0, NOT_BARS + TOO_LOW_LISTED)]),
    ("joining.joined", [(2, 1, 3), (2, 1, 3)], [
        ("NotAForm", 0, NOT_FORMS), ("NotAForm", 1, NOT_FORMS), ("OtherBar", 0, [(2, 2, 3)] + NOT_BARE),
        ("OtherBar", 1, [(1, 1, 1), (1, 0, 1), (3, 3, 3)])]),
    ("joining.joined", [(1, 0, 3), (1, 0, 3)], [
        ("OtherBar", 0, [(2, 2, 3), (2, 0, 2)]), ("NotBare", 0, [(2, 2, 2), (2, -2, 2), (6, 6, 2)]),
        ("NotBare", 1, [(2, 2, 2), (2, -2, 2), (6, 6, 2)])]),
    ("joining.neutral", [-23], [("NoBar", 0, NOT_BARS)]),
    ("joining.opposite", [(2, 1, 3)], [("NotAForm", 0, NOT_FORMS), ("NotBare", 0, NOT_BARE + NOT_BARE_LOW)]),
    ("joining.repeated", [(2, 1, 3), 2], [
        ("NotAForm", 0, NOT_FORMS), ("NotBare", 0, NOT_BARE + NOT_BARE_LOW), ("OutOfBounds", 1, BAD_TIMES)]),
    ("group.round_of", [(2, 1, 3)], [
        ("NotAForm", 0, NOT_FORMS), ("NoBar", 0, LOW_FORMS + NOT_BARE_LOW), ("NotBare", 0, NOT_BARE)]),
    ("group.parted", [-23], [("NoBar", 0, NOT_BARS + TOO_LOW_LISTED)]),
    ("group.lengths", [-23], [("NoBar", 0, NOT_BARS + TOO_LOW_LISTED)]),
    ("genus.marks_of", [-23], [("NoBar", 0, NOT_BARS + TOO_LOW_MARKED)]),
    ("genus.genus_of", [(2, 1, 3)], [
        ("NotAForm", 0, NOT_FORMS), ("NotBare", 0, NOT_BARE + NOT_BARE_LOWEST), ("NoBar", 0, LOWEST_FORMS)]),
    ("genus.same_genus", [(2, 1, 3)], [
        ("NotAForm", 0, NOT_FORMS), ("NotBare", 0, NOT_BARE + NOT_BARE_LOWEST), ("NoBar", 0, LOWEST_FORMS)]),
    ("genus.halved", [(2, 1, 3)], [
        ("NotAForm", 0, NOT_FORMS), ("NotBare", 0, NOT_BARE + NOT_BARE_LOW), ("NoBar", 0, LOW_FORMS)]),
    ("primes.prime_told", [-23, 13], [("NoBar", 0, NOT_BARS + TOO_LOW_MARKED), ("OutOfBounds", 1, BAD_PRIMES + [23])]),
    ("primes.ways", [-23, 6], [("NoBar", 0, NOT_BARS + TOO_LOW_LISTED), ("OutOfBounds", 1, BAD_NUMBERS)]),
    ("primes.ways_sum", [-23, 6], [("NoBar", 0, NOT_BARS), ("OutOfBounds", 1, BAD_NUMBERS + [0, 23, 46])]),
    ("notes.written", [(2, 1, 3)], [("NotAForm", 0, NOT_FORMS)]),
    ("notes.read", ["[2, 1, 3]"], [("NotWritten", 0, ["", "[2, 1]", "[2, 1, 03]", "[-1, 0]"]),
                                   ("NotAForm", 0, ["[1, 2, 1]", "[-1, 0, -1]"])]),
    ("notes.table", [-23, 6], [("NoBar", 0, NOT_BARS + TOO_LOW_LISTED)]),
]


def named(name):
    module, function = name.split(".")
    return getattr(importlib.import_module(f"formturn.{module}"), function)


class Names(unittest.TestCase):
    def test_every_name_with_its_arguments(self):
        for module, names in INTERFACE.items():
            for name, arguments in names.items():
                with self.subTest(module=module, name=name):
                    self.assertEqual(str(inspect.signature(named(f"{module}.{name}"))), arguments)

    def test_the_methods_of_a_question(self):
        for name in ["Question", "LeastQuestion", "RoundQuestion"]:
            kind = named(f"desk.{name}")
            self.assertEqual(str(inspect.signature(kind.told)), "(self)")
            self.assertEqual(str(inspect.signature(kind.line)), "(self, width)")

    def test_arguments_by_name(self):
        self.assertEqual(named("forms.worth")(form=(2, 1, 3), place=(1, 1)), 6)
        self.assertEqual(named("notes.table")(bar=-3, width=2), ["001 1 1 1 1 0"])
        self.assertEqual(named("desk.answered")(lines=["count"], width=2), [" 0"])
        self.assertEqual(named("joining.repeated")(form=(2, 1, 3), times=2), (2, -1, 3))

    def test_all_functions_of_the_interface_are_asked_below(self):
        asked = {name for name, good, refusals in REFUSALS}
        all_names = {f"{module}.{name}" for module, names in INTERFACE.items() for name in names if module != "desk"}
        self.assertEqual(asked, all_names)


class Refusals(unittest.TestCase):
    def assert_refused(self, name, arguments, refusal, numbers):
        with self.subTest(name=name, refusal=refusal, numbers=numbers):
            with self.assertRaises(getattr(errors, refusal)) as taken:
                named(name)(*arguments)
            self.assertIs(taken.exception.__class__, getattr(errors, refusal))

    def test_one_at_a_time_with_a_good_question_between(self):
        for name, good, refusals in REFUSALS:
            answer = named(name)(*good)
            for refusal, place, values in refusals:
                for number, value in enumerate(values):
                    arguments = list(good)
                    arguments[place] = value
                    self.assert_refused(name, arguments, refusal, (place, number))
            if name != "genus.same_genus":
                self.assertEqual(named(name)(*good), answer)

    def test_two_at_once_in_the_order_told(self):
        for name, good, refusals in REFUSALS:
            for first, (refusal, place, values) in enumerate(refusals):
                for later, second_place, second_values in refusals[first + 1:]:
                    if place == second_place:
                        continue
                    for number, value in enumerate(values):
                        arguments = list(good)
                        arguments[place] = value
                        arguments[second_place] = second_values[number % len(second_values)]
                        self.assert_refused(name, arguments, refusal, (place, number))

    def test_a_list_that_is_refused_stays_as_it_was(self):
        for name, good, refusals in REFUSALS:
            for refusal, place, values in refusals:
                wrong = [2, [1], 3]
                arguments = list(good)
                arguments[place] = wrong
                with self.subTest(name=name, place=place):
                    with self.assertRaises(errors.FormError):
                        named(name)(*arguments)
                    self.assertEqual(wrong, [2, [1], 3])


if __name__ == "__main__":
    unittest.main()
