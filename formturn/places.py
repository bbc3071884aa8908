"""All places where a form is worth a number."""

from formturn.forms import bar_of, require_form
from formturn.least import least_of
from formturn.turning import sent
from formturn.whole import require_number, root_of

GREATEST = 10000


def greatest_row(bound, bar):
    y = 0
    while -bar * (y + 1) * (y + 1) <= bound:
        y += 1
    return y


def places_in_row(form, y, square):
    # (2 a x + b y) squared must be the square; so there are two such x at the most.
    middle = root_of(square)
    if middle * middle != square:
        return []
    double = 2 * form[0]
    shift = form[1] * y
    sides = [middle, -middle] if middle > 0 else [0]
    return [((side - shift) // double, y) for side in sides if (side - shift) % double == 0]


def places_of_least(form, number):
    # 4 a times the worth is (2 a x + b y) squared and -bar y y: that bounds y, and gives x for each y.
    bound = 4 * form[0] * number
    bar = bar_of(form)
    top = greatest_row(bound, bar)
    found = []
    for y in range(-top, top + 1):
        found.extend(places_in_row(form, y, bound + bar * y * y))
    return found


def places(form, number):
    require_form(form)
    require_number(number, 0, GREATEST)
    least = least_of(form)
    # The first number of a least form is the smallest that it is worth, so a great one need not be looked through.
    if 0 < number < least[0][0]:
        return []
    return sorted([sent(least[1], place) for place in places_of_least(least[0], number)])
