"""The checks of what is handed in.

A function calls them in the order in which refusals are due: first
check_curve for each of its curves, then check_not_nought, then check_place or
check_stretch, then check_fine.
"""

from zerofence.errors import NoCurve, NoFine, NoPlace, NoStretch, Nought


def check_curve(curve):
    if len(curve) > 0 and curve[-1] == 0:
        raise NoCurve("the last number of a curve is not nought")


def check_not_nought(curve):
    if len(curve) == 0:
        raise Nought("this curve must not be nought")


def check_place(place):
    if place[1] < 1:
        raise NoPlace("one is made of one part or more")


# Both places are looked at first: only then do the parts of each, taken times
# those of the other, tell which is less.
def check_stretch(low, high):
    check_place(low)
    check_place(high)
    if high[0] * low[1] < low[0] * high[1]:
        raise NoStretch("the high place is no less than the low one")


def check_fine(fine):
    if fine < 1:
        raise NoFine("a stretch is measured by one part of one or more")
