"""How many roots a curve has, in a stretch and in all, and how far off they may lie."""

from zerofence.chains import chain, changes_along
from zerofence.checks import check_curve, check_not_nought, check_stretch
from zerofence.curves import slope
from zerofence.dividing import shared


def roots_between(curve, low, high):
    check_curve(curve)
    check_not_nought(curve)
    check_stretch(low, high)
    return roots_along(chain(curve), low, high)


def roots_along(links, low, high):
    return changes_along(links, low) - changes_along(links, high)


def roots_with_times(curve, low, high):
    check_curve(curve)
    check_not_nought(curve)
    check_stretch(low, high)
    return times_along(chains_for_times(curve), low, high)


def times_along(chains, low, high):
    return sum([roots_along(links, low, high) for links in chains])


# What a curve and its slope share has each root one time fewer than the curve:
# so a root that is one so many times is found in so many of these chains.
def chains_for_times(curve):
    chains = []
    rest = curve
    while len(rest) > 1:
        chains.append(chain(rest))
        rest = shared(rest, slope(rest))
    return chains


def roots_in_all(curve):
    check_curve(curve)
    check_not_nought(curve)
    edge = reach(curve)
    return roots_along(chain(curve), (-edge, 1), (edge, 1))


def reach(curve):
    check_curve(curve)
    check_not_nought(curve)
    greatest = max([abs(number) for number in curve[:-1]], default=0)
    return 2 + greatest // abs(curve[-1])
