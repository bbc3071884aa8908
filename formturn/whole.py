"""Whole numbers: what counts as one, as a tuple of them and as a bar, and their common divisors."""


def is_whole(value):
    # Python counts True and False among the whole numbers, the program does not.
    return isinstance(value, int) and not isinstance(value, bool)


def is_whole_tuple(value, length):
    if not isinstance(value, tuple) or len(value) != length:
        return False
    return all([is_whole(number) for number in value])


def is_bar(value):
    return is_whole(value) and value < 0 and value % 4 in (0, 1)


def common_divisor(one, other):
    greater = abs(one)
    lesser = abs(other)
    while lesser != 0:
        rest = greater % lesser
        greater = lesser
        lesser = rest
    return greater
