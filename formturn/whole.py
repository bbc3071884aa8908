"""Whole numbers: what counts as one, their bounds, common divisors and roots."""

from formturn.errors import OutOfBounds


def is_whole(value):
    # Python counts True and False among the whole numbers, the program does not.
    return isinstance(value, int) and not isinstance(value, bool)


def is_whole_tuple(value, length):
    if not isinstance(value, tuple) or len(value) != length:
        return False
    return all([is_whole(number) for number in value])


def is_bar(value):
    return is_whole(value) and value < 0 and value % 4 in (0, 1)


def require_number(value, lowest, highest):
    if not is_whole(value) or value < lowest or value > highest:
        raise OutOfBounds("a whole number within its bounds is asked for")


def common_divisor(one, other):
    greater = abs(one)
    lesser = abs(other)
    while lesser != 0:
        rest = greater % lesser
        greater = lesser
        lesser = rest
    return greater


def root_of(number):
    # The greatest whole number whose square is no more: from above, each guess comes nearer until none does.
    guess = number
    better = (number + 1) // 2
    while better < guess:
        guess = better
        better = (guess + number // guess) // 2
    return guess
