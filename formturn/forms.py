"""Forms (a, b, c): their bar, what they are worth at a place, and whether they are bare."""

from formturn.errors import NotAForm
from formturn.whole import common_divisor, is_whole_tuple


def bar_of_numbers(a, b, c):
    return b * b - 4 * a * c


def is_form(value):
    if not is_whole_tuple(value, 3):
        return False
    return value[0] > 0 and bar_of_numbers(value[0], value[1], value[2]) < 0


def require_form(value):
    # The words leave out the value: Python refuses to write numbers of more than 4300 figures.
    if not is_form(value):
        raise NotAForm("a form is a tuple of three whole numbers, the first above nought, its bar below nought")


def bar_of(form):
    require_form(form)
    return bar_of_numbers(form[0], form[1], form[2])


def worth(form, place):
    require_form(form)
    x = place[0]
    y = place[1]
    return form[0] * x * x + form[1] * x * y + form[2] * y * y


def is_bare(form):
    require_form(form)
    return common_divisor(common_divisor(form[0], form[1]), form[2]) == 1
