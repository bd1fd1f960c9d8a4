"""The checks of what is handed in.

A function calls them in the order in which refusals are due: first
check_curve for each of its curves, then check_not_nought, then check_place.
"""

from zerofence.errors import NoCurve, NoPlace, Nought


def check_curve(curve):
    if len(curve) > 0 and curve[-1] == 0:
        raise NoCurve("the last number of a curve is not nought")


def check_not_nought(curve):
    if len(curve) == 0:
        raise Nought("this curve must not be nought")


def check_place(place):
    if place[1] < 1:
        raise NoPlace("one is made of one part or more")
