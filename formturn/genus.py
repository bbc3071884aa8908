"""The marks of a bar, a bare form's signs at them, its genus, and its half."""

from formturn.forms import bar_of, require_form, worth
from formturn.joining import joined, require_bare, require_same_bar
from formturn.least import least_of
from formturn.lists import classes
from formturn.whole import LOWEST_LISTED_BAR, LOWEST_MARKED_BAR, leaves_square, prime_divisors, require_bar_from


def marks_beside_odd_primes(quarter):
    rest = quarter % 8
    found = []
    if rest in (1, 5, 4, 0):
        found.append(4)
    if rest in (6, 0):
        found.append(8)
    if rest == 2:
        found.append(-8)
    return found


def marks_of(bar):
    require_bar_from(bar, LOWEST_MARKED_BAR)
    found = [prime for prime in prime_divisors(-bar) if prime != 2]
    if bar % 4 == 0:
        found.extend(marks_beside_odd_primes(-bar // 4))
    return found


def is_plus_at(mark, number):
    if mark == 4:
        return number % 4 == 1
    if mark == 8:
        return number % 8 in (1, 7)
    if mark == -8:
        return number % 8 in (1, 3)
    return leaves_square(number, mark)


def telling_place(form):
    # By each prime of twice the bar, only the a x x is left, or only the c y y, or only the b x y; and none of them
    # is divided by it. So the worth there has no divisor above 1 in common with twice the bar.
    x = 1
    y = 1
    for prime in prime_divisors(-2 * bar_of(form)):
        if form[0] % prime != 0:
            y = y * prime
        elif form[2] % prime != 0:
            x = x * prime
    return (x, y)


def signs_of(form):
    number = worth(form, telling_place(form))
    return [1 if is_plus_at(mark, number) else -1 for mark in marks_of(bar_of(form))]


def genus_of(form):
    require_form(form)
    require_bare(form)
    require_bar_from(bar_of(form), LOWEST_MARKED_BAR)
    found = 0
    for sign in reversed(signs_of(form)):
        found = 2 * found + (1 if sign == -1 else 0)
    return found


def same_genus(form):
    genus = genus_of(form)

    def is_same(other):
        require_form(other)
        require_same_bar(form, other)
        return genus_of(other) == genus

    return is_same


def halved(form):
    require_form(form)
    require_bare(form)
    bar = bar_of(form)
    require_bar_from(bar, LOWEST_LISTED_BAR)
    least = least_of(form)[0]
    for half in classes(bar):
        if joined(half, half)[0] == least:
            return (True, half)
    # The joints of a class with itself are just the classes whose signs are all 1, so here there is one of -1.
    return (False, marks_of(bar)[signs_of(form).index(-1)], telling_place(form))
