"""Whole numbers: what counts as one or as a bar, their bounds, common divisors, roots, primes and squares left."""

from formturn.errors import NoBar, OutOfBounds

# Least forms, rounds and parts are told for bars no lower than this, signs and primes for bars no lower than that.
LOWEST_LISTED_BAR = -4000
LOWEST_MARKED_BAR = -1000000


def is_whole(value):
    # Python counts True and False among the whole numbers, the program does not.
    return isinstance(value, int) and not isinstance(value, bool)


def is_whole_tuple(value, length):
    if not isinstance(value, tuple) or len(value) != length:
        return False
    return all([is_whole(number) for number in value])


def is_bar(value):
    return is_whole(value) and value < 0 and value % 4 in (0, 1)


def require_bar(value):
    if not is_bar(value):
        raise NoBar("a bar is a whole number below nought that leaves 0 or 1 by four")


def require_bar_from(value, lowest):
    require_bar(value)
    if value < lowest:
        raise NoBar("the bar is too low for what is asked")


def require_whole(value):
    if not is_whole(value):
        raise OutOfBounds("a whole number is asked for")


def require_number(value, lowest, highest):
    require_whole(value)
    if value < lowest or value > highest:
        raise OutOfBounds("a whole number within its bounds is asked for")


def common_divisor(one, other):
    greater = abs(one)
    lesser = abs(other)
    while lesser != 0:
        rest = greater % lesser
        greater = lesser
        lesser = rest
    return greater


def divisor_with_shares(one, other):
    # (d, u, v): their common divisor d, no less than nought, and d = u one + v other.
    divisor = one
    share = 1
    rest = other
    rest_share = 0
    while rest != 0:
        times = divisor // rest
        after = divisor - times * rest
        after_share = share - times * rest_share
        divisor = rest
        share = rest_share
        rest = after
        rest_share = after_share
    if divisor < 0:
        divisor = -divisor
        share = -share
    # Only one share is carried along: the other follows from it, at less cost for great numbers.
    return (divisor, share, (divisor - share * one) // other if other != 0 else 0)


def root_of(number):
    # The greatest whole number whose square is no more: from above, each guess comes nearer until none does.
    guess = number
    better = (number + 1) // 2
    while better < guess:
        guess = better
        better = (guess + number // guess) // 2
    return guess


def prime_factors(number):
    # The least first, each as often as it divides the number.
    rest = number
    found = []
    prime = 2
    while prime * prime <= rest:
        while rest % prime == 0:
            found.append(prime)
            rest = rest // prime
        prime += 1
    if rest > 1:
        found.append(rest)
    return found


def prime_divisors(number):
    return sorted(set(prime_factors(number)))


def power_by(base, exponent, divisor):
    found = 1
    while exponent > 0:
        if exponent % 2 == 1:
            found = found * base % divisor
        base = base * base % divisor
        exponent = exponent // 2
    return found


def leaves_square(number, prime):
    # Euler's rule, for an odd prime that does not divide the number.
    return power_by(number % prime, (prime - 1) // 2, prime) == 1
