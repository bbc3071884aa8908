"""The rounds of the classes of a bar, their lengths, and the bar parted by them."""

from formturn.forms import bar_of, require_form
from formturn.joining import joined, neutral, require_bare
from formturn.least import least_of
from formturn.lists import classes
from formturn.whole import LOWEST_LISTED_BAR, common_divisor, require_bar_from


def round_of_class(form):
    last = neutral(bar_of(form))
    found = [form]
    while found[-1] != last:
        found.append(joined(found[-1], form)[0])
    return found


def round_of(form):
    require_form(form)
    require_bar_from(bar_of(form), LOWEST_LISTED_BAR)
    require_bare(form)
    return round_of_class(least_of(form)[0])


def every_so_many(way, many):
    # The round of the class that comes after so many in another one's round: no joining is wanted for it.
    length = len(way)
    turns = length // common_divisor(length, many)
    return [way[(many * k - 1) % length] for k in range(1, turns + 1)]


def rounds(bar):
    found = {}
    for form in classes(bar):
        if form not in found:
            way = round_of_class(form)
            for many, one in enumerate(way, start=1):
                found[one] = every_so_many(way, many)
    return found


def lengths(bar):
    ways = rounds(bar)
    counts = {}
    for length in sorted([len(way) for way in ways.values()]):
        counts[length] = counts.get(length, 0) + 1
    return counts


def is_apart(way, covered):
    # Only its last one, the neutral form, is covered already.
    return all([form not in covered for form in way[:-1]])


def longest_apart(forms, ways, covered):
    # A longest one among these always leaves the rest of the bar to be parted by further ones.
    found = forms[0]
    for form in forms:
        if is_apart(ways[form], covered) and len(ways[form]) > len(ways[found]):
            found = form
    return found


def covered_with(covered, way):
    found = {}
    for one in covered:
        for other in way:
            found[joined(one, other)[0]] = True
    return found


def parted(bar):
    forms = classes(bar)
    ways = rounds(bar)
    covered = {neutral(bar): True}
    found = []
    while len(covered) < len(forms):
        form = longest_apart(forms, ways, covered)
        found.append((form, len(ways[form])))
        covered = covered_with(covered, ways[form])
    return found
