"""Turnings (p, q, r, s): where they send places and lead forms, one behind another, and the way back."""

from formturn.errors import NotATurning
from formturn.forms import require_form, worth
from formturn.whole import is_whole_tuple


def is_turning(value):
    if not is_whole_tuple(value, 4):
        return False
    return value[0] * value[3] - value[1] * value[2] == 1


def require_turning(value):
    if not is_turning(value):
        raise NotATurning("a turning is a tuple of four whole numbers with p s - q r = 1")


def sent(turning, place):
    x = place[0]
    y = place[1]
    return (turning[0] * x + turning[1] * y, turning[2] * x + turning[3] * y)


def turned(form, turning):
    require_form(form)
    require_turning(turning)
    one = sent(turning, (1, 0))
    other = sent(turning, (0, 1))
    first = worth(form, one)
    last = worth(form, other)
    # The new form is worth the sum of its three numbers at (1, 1).
    return (first, worth(form, sent(turning, (1, 1))) - first - last, last)


def behind(one, other):
    require_turning(one)
    require_turning(other)
    left = sent(one, (other[0], other[2]))
    right = sent(one, (other[1], other[3]))
    return (left[0], right[0], left[1], right[1])


def way_back(turning):
    require_turning(turning)
    return (turning[3], -turning[1], -turning[2], turning[0])
