"""Least forms: the one that turnings lead a form to, alike forms, own turnings and the smallest worth."""

from formturn.forms import require_form
from formturn.turning import behind, sent, way_back

NO_TURN = (1, 0, 0, 1)
HALF_TURN = (-1, 0, 0, -1)


def is_least(form):
    require_form(form)
    a = form[0]
    b = form[1]
    c = form[2]
    return -a < b <= a <= c and (b >= 0 or a < c)


def stepped(form, step):
    # What the turning (1, step, 0, 1) leads to, without the products of a whole turning.
    a = form[0]
    b = form[1]
    return (a, b + 2 * a * step, form[2] + step * (b + a * step))


def behind_step(turning, step):
    p = turning[0]
    r = turning[2]
    return (p, turning[1] + p * step, r, turning[3] + r * step)


def swapped(form):
    # What the turning (0, -1, 1, 0) leads to.
    return (form[2], -form[1], form[0])


def behind_swap(turning):
    return (turning[1], -turning[0], turning[3], -turning[2])


def step_to_middle(form):
    # The one step that brings b above -a and no higher than a.
    return (form[0] - form[1]) // (2 * form[0])


def least_of(form):
    require_form(form)
    step = step_to_middle(form)
    found = stepped(form, step)
    turning = behind_step(NO_TURN, step)
    # With b in the middle only the order of a and c is left; each swap makes a smaller, or b no less than nought.
    while found[0] > found[2] or (found[0] == found[2] and found[1] < 0):
        found = swapped(found)
        turning = behind_swap(turning)
        step = step_to_middle(found)
        found = stepped(found, step)
        turning = behind_step(turning, step)
    return (found, turning)


def alike(one, other):
    require_form(one)
    require_form(other)
    first = least_of(one)
    second = least_of(other)
    if first[0] != second[0]:
        return (False, first[0], second[0])
    return (True, behind(first[1], way_back(second[1])))


def own_turnings_of_least(form):
    a = form[0]
    b = form[1]
    c = form[2]
    found = [NO_TURN, HALF_TURN]
    if a == c and b == 0:
        found.extend([(0, -1, 1, 0), (0, 1, -1, 0)])
    if a == c and b == a:
        found.extend([(0, -1, 1, 1), (0, 1, -1, -1), (1, 1, -1, 0), (-1, -1, 1, 0)])
    return found


def own_turnings(form):
    least = least_of(form)
    there = least[1]
    back = way_back(there)
    return sorted([behind(behind(there, own), back) for own in own_turnings_of_least(least[0])])


def smallest(form):
    least = least_of(form)
    # A least form is worth its first number at (1, 0), and nowhere less but at (0, 0).
    return (least[0][0], sent(least[1], (1, 0)))
