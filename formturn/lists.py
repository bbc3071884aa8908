"""The least forms of a bar, and its classes, which are the bare ones among them."""

from formturn.forms import is_bare
from formturn.least import is_least
from formturn.whole import LOWEST_LISTED_BAR, require_bar_from


def least_forms_from(bar, a):
    # The middle number has the bar's oddness: only then does four divide b b - bar.
    found = []
    for b in range(-a, a + 1):
        if (b * b - bar) % (4 * a) == 0:
            form = (a, b, (b * b - bar) // (4 * a))
            if is_least(form):
                found.append(form)
    return found


def least_forms(bar):
    require_bar_from(bar, LOWEST_LISTED_BAR)
    found = []
    a = 1
    # A least form has b b <= a a <= a c, so its bar is -3 a a or lower.
    while 3 * a * a <= -bar:
        found.extend(least_forms_from(bar, a))
        a += 1
    return found


def classes(bar):
    return [form for form in least_forms(bar) if is_bare(form)]


def kept(bar, wanted):
    return [form for form in classes(bar) if wanted(form)]
