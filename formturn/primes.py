"""An odd prime told by a bar, all ways of a number, and their sum."""

from formturn.errors import OutOfBounds
from formturn.least import least_of
from formturn.lists import classes
from formturn.places import places
from formturn.turning import sent, way_back
from formturn.whole import (
    LOWEST_LISTED_BAR, LOWEST_MARKED_BAR, common_divisor, leaves_square, prime_factors, require_bar, require_bar_from,
    require_number,
)

GREATEST = 10000


def require_telling_prime(bar, prime):
    require_number(prime, 3, GREATEST)
    if prime_factors(prime) != [prime] or bar % prime == 0:
        raise OutOfBounds("an odd prime that does not divide the bar is asked for")


def prime_told(bar, prime):
    require_bar_from(bar, LOWEST_MARKED_BAR)
    require_telling_prime(bar, prime)
    # A form that is worth the prime somewhere is alike one that has it as its first number.
    for middle in range(bar % 2, 2 * prime, 2):
        if (middle * middle - bar) % (4 * prime) == 0:
            least = least_of((prime, middle, (middle * middle - bar) // (4 * prime)))
            return (True, least[0], sent(way_back(least[1]), (1, 0)))
    return (False,)


def ways(bar, number):
    require_bar_from(bar, LOWEST_LISTED_BAR)
    require_number(number, 0, GREATEST)
    found = []
    for form in classes(bar):
        found.extend([(form, place) for place in places(form, number)])
    return found


def side_by_prime(bar, prime):
    if prime == 2:
        return 1 if bar % 8 == 1 else -1
    return 1 if leaves_square(bar, prime) else -1


def side_by(bar, divisor):
    side = 1
    for prime in prime_factors(divisor):
        side = side * side_by_prime(bar, prime)
    return side


def ways_of_one(bar):
    # So many own turnings have the classes of the bar.
    if bar == -3:
        return 6
    if bar == -4:
        return 4
    return 2


def ways_sum(bar, number):
    require_bar(bar)
    require_number(number, 1, GREATEST)
    if common_divisor(bar, number) != 1:
        raise OutOfBounds("a number that has no divisor above 1 in common with the bar is asked for")
    divisors = [divisor for divisor in range(1, number + 1) if number % divisor == 0]
    return ways_of_one(bar) * sum([side_by(bar, divisor) for divisor in divisors])
