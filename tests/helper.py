"""What several files of tests need: values that are refused, and places and turnings to try."""

from decimal import Decimal
from fractions import Fraction


class Hostile:
    # What is handed in may be of any kind, this one too, that fails at whatever it is asked.
    def fail(self, *ignored):
        raise RuntimeError("asked")

    __eq__ = __lt__ = __gt__ = __le__ = __ge__ = __len__ = __iter__ = __getitem__ = __bool__ = __mod__ = fail
    __mul__ = __rmul__ = __sub__ = __rsub__ = __neg__ = __abs__ = fail
    __repr__ = __str__ = __hash__ = __int__ = __index__ = fail


OTHER_KINDS = [None, True, False, "", "1", "-3", "[1, 1, 1]", b"1", 1.0, -3.0, -4.0, 1.5, float("nan"), 1j,
               Fraction(-4), Decimal(-3), {}, {0: 1, 1: 1, 2: 1}, {1, 2, 3}, frozenset((1,)), range(1, 4), object(),
               tuple, ValueError, len, Hostile()]

NOT_NUMBERS = OTHER_KINDS + [(), (1,), [], [1], (1, 1, 1), [1, 1, 1]]

NOT_FORMS = OTHER_KINDS + [
    0, 1, -3, -4, 10**50,
    (), (1,), (1, 1), (1, 1, 1, 1), (1, 0, 0, 1), [1, 1, 1], [], ((1, 1, 1),),
    (True, 1, 1), (1, True, 1), (1, 1, True), (1, False, 1), (1.0, 1, 1), (1, None, 1), (1, 1, "1"),
    (Hostile(), 1, 1), (1, Hostile(), 1), (1, 1, Hostile()),
    (0, 0, 0), (0, 0, 1), (0, 1, 0), (-1, 0, -1), (-1, 1, -1), (-1, 0, 1), (1, 0, -1),
    (1, 2, 1), (1, 0, 0), (1, 3, 2), (1, 10**40, 1), (-(10**40), 1, -(10**40)),
]

NOT_TURNINGS = OTHER_KINDS + [
    0, 1, -1, 10**50,
    (), (1,), (1, 0, 1), (1, 0, 0, 1, 0), (1, 0, 0, 1, 0, 0), [1, 0, 0, 1], ((1, 0), (0, 1)), "1001",
    (True, 0, 0, 1), (1, False, 0, 1), (1, 0, False, 1), (1, 0, 0, True), (True, False, False, True),
    (1.0, 0, 0, 1), (1, None, 0, 1), (1, 0, "0", 1), (1, 0, 0, (1,)), (Hostile(), 0, 0, 1), (1, 0, 0, Hostile()),
    (0, 0, 0, 0), (1, 0, 0, 0), (1, 1, 1, 1), (-1, 0, 0, 1), (1, 0, 0, -1), (0, 1, 1, 0), (2, 1, 1, 2), (2, 0, 0, 1),
    (1, 0, 0, 2), (2, 1, 1, 0), (10**40, 1, 1, 10**40),
]

NOT_BARS = NOT_NUMBERS + [0, 1, 4, 5, 3, 12, 10**50, -1, -2, -5, -6, -9, -10, -3998, -3997, -4002, -(10**50) - 1,
                          -(10**50) - 2]

SQUARE = [(x, y) for x in range(-4, 5) for y in range(-4, 5)] + [(10**30, -7), (-12345, 10**25 + 1)]


def product(one, other):
    # The product of two squares of numbers, reckoned here by its four sums.
    (p, q, r, s), (t, u, v, w) = one, other
    return (p * t + q * v, p * u + q * w, r * t + s * v, r * u + s * w)


def turning_of(steps):
    # Behind each step a swap, and a last step of one: so many steps away from standing still.
    found = (1, 0, 0, 1)
    for step in steps:
        found = product(product(found, (1, step, 0, 1)), (0, -1, 1, 0))
    return product(found, (1, 1, 0, 1))


def value_at(form, place):
    (a, b, c), (x, y) = form, place
    return a * x * x + b * x * y + c * y * y


def form_by_values(form, turning):
    # Three values tell a form whole: at (1, 0), at (0, 1), and at (1, 1) less those two.
    p, q, r, s = turning
    first = value_at(form, (p, r))
    last = value_at(form, (q, s))
    return (first, value_at(form, (p + q, r + s)) - first - last, last)
