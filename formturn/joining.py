"""The joining of two bare forms of one bar, the neutral form, the opposite, and a form repeated."""

from formturn.errors import NotBare, OtherBar
from formturn.forms import bar_of, is_bare, require_form
from formturn.least import least_of
from formturn.turning import sent, way_back
from formturn.whole import divisor_with_shares, require_bar, require_number

MOST_TIMES = 1000


def require_bare(form):
    if not is_bare(form):
        raise NotBare("the three numbers of a bare form have no common divisor above 1")


def require_same_bar(one, other):
    if bar_of(one) != bar_of(other):
        raise OtherBar("the two forms have different bars")


def joint_divisor(one, other):
    # (d, u, v, w): d divides both first numbers and half the sum of the middle ones, and is u, v, w times these.
    first = divisor_with_shares(one[0], other[0])
    second = divisor_with_shares(first[0], (one[1] + other[1]) // 2)
    return (second[0], second[1] * first[1], second[1] * first[2], second[2])


def joint_middle(one, other, shares):
    # Leaves b by 2 a / d for either form, and makes the last number of the first row whole too.
    half = (one[1] * other[1] + bar_of(one)) // 2
    total = shares[1] * one[0] * other[1] + shares[2] * other[0] * one[1] + shares[3] * half
    return total // shares[0]


def joint_rows(one, other, divisor, middle):
    # A form at (x, y) is the norm of a x + (b + root of the bar) / 2 y, parted by a. Two such sums multiplied,
    # and written as the divisor times the joint form's own sum, give these pairs, one of X and one of Y.
    a = one[0]
    b = one[1]
    d = other[0]
    e = other[1]
    last = b * e + bar_of(one) - middle * (b + e)
    return [
        (divisor, 0),
        (divisor * (e - middle) // (2 * d), a // divisor),
        (divisor * (b - middle) // (2 * a), d // divisor),
        (divisor * last // (4 * a * d), (b + e) // (2 * divisor)),
    ]


def joined_whole(one, other):
    bar = bar_of(one)
    shares = joint_divisor(one, other)
    divisor = shares[0]
    first = (one[0] // divisor) * (other[0] // divisor)
    middle = joint_middle(one, other, shares) % (2 * first)
    least = least_of((first, middle, (middle * middle - bar) // (4 * first)))
    back = way_back(least[1])
    pairs = [sent(back, pair) for pair in joint_rows(one, other, divisor, middle)]
    return (least[0], tuple([pair[0] for pair in pairs]), tuple([pair[1] for pair in pairs]))


def joined(one, other):
    require_form(one)
    require_form(other)
    require_same_bar(one, other)
    require_bare(one)
    require_bare(other)
    return joined_whole(one, other)


def neutral(bar):
    require_bar(bar)
    middle = bar % 2
    return (1, middle, (middle - bar) // 4)


def opposite(form):
    require_form(form)
    require_bare(form)
    return least_of((form[0], -form[1], form[2]))[0]


def repeated_from_nought(form, times):
    # Joined with itself again and again: so the joinings grow with the figures of times alone.
    found = neutral(bar_of(form))
    power = least_of(form)[0]
    while times > 0:
        if times % 2 == 1:
            found = joined(found, power)[0]
        times = times // 2
        if times > 0:
            power = joined(power, power)[0]
    return found


def repeated(form, times):
    require_form(form)
    require_bare(form)
    require_number(times, -MOST_TIMES, MOST_TIMES)
    if times < 0:
        return repeated_from_nought(opposite(form), -times)
    return repeated_from_nought(form, times)
