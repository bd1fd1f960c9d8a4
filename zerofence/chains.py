"""The chain of a curve, and the changes of its signs at a place."""

from zerofence.checks import check_curve, check_not_nought, check_place
from zerofence.curves import plain, sign_at, slope
from zerofence.dividing import left, simple


def chain(curve):
    check_curve(curve)
    check_not_nought(curve)
    ahead = simple(curve)
    behind = plain(slope(ahead))
    links = [ahead]
    while len(behind) > 0:
        links.append(behind)
        rest = left(ahead, behind)
        ahead = behind
        behind = [-number for number in rest]
    return links


def changes(curve, place):
    check_curve(curve)
    check_not_nought(curve)
    check_place(place)
    return changes_along(chain(curve), place)


# For those who ask at many places: a chain takes longer to make than to walk.
def changes_along(links, place):
    count = 0
    ahead = 0
    for link in links:
        sign = sign_at(link, place)
        if ahead * sign == -1:
            count = count + 1
        if sign != 0:
            ahead = sign
    return count
