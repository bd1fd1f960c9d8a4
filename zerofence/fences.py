"""A stretch for each root of a curve, and the signs of the curve around its roots."""

from zerofence.chains import chain, changes_along
from zerofence.checks import check_curve, check_fine, check_not_nought
from zerofence.counting import chains_for_times, reach, times_along
from zerofence.curves import sign_at


def stretches(curve, fine):
    check_curve(curve)
    check_not_nought(curve)
    check_fine(fine)
    links = chain(curve)
    edge = reach(curve) * fine
    apart = one_root_each(links, (-edge, fine), (edge, fine))
    return [narrowed(links[0], low, high, fine) for low, high in apart]


# The places go from left to right, each with its changes, so that these are
# told once for each place. No call goes into itself here: two roots may lie so
# close that the stretch around them is halved some thousand times.
def one_root_each(links, low, high):
    found = []
    start = (low, changes_along(links, low))
    ends = [(high, changes_along(links, high))]
    while len(ends) > 0:
        end = ends[-1]
        roots = start[1] - end[1]
        if roots > 1:
            place = middle(start[0], end[0])
            ends.append((place, changes_along(links, place)))
        else:
            if roots == 1:
                found.append((start[0], end[0]))
            start = ends.pop()
    return found


# The parts of each place here are the first ones, or these times 2 so many
# times: so the greater parts serve for both places. They are only made more
# where nothing lies between, which keeps the numbers as small as can be.
def middle(low, high):
    parts = max(low[1], high[1])
    first = in_parts(low, parts)
    last = in_parts(high, parts)
    if last - first > 1:
        return ((first + last) // 2, parts)
    return (first + last, 2 * parts)


def in_parts(place, parts):
    return place[0] * (parts // place[1])


# With one root in the stretch, which is one once, the sign in the middle tells
# the half it lies in: that of the high place is met again only beyond the root.
def narrowed(curve, low, high, fine):
    bottom = low
    top = high
    sign_beyond = sign_at(curve, top)
    while is_longer(bottom, top, fine):
        place = middle(bottom, top)
        sign = sign_at(curve, place)
        if sign == 0 or sign == sign_beyond:
            top = place
        else:
            bottom = place
    return (bottom, top)


def is_longer(low, high, fine):
    parts = max(low[1], high[1])
    return (in_parts(high, parts) - in_parts(low, parts)) * fine > parts


# A root that is one an even number of times does not turn the sign.
def signs_over(curve):
    check_curve(curve)
    check_not_nought(curve)
    chains = chains_for_times(curve)
    sign = sign_at(curve, (-reach(curve), 1))
    signs = [sign]
    for low, high in stretches(curve, 1):
        if times_along(chains, low, high) % 2 == 1:
            sign = -sign
        signs.append(sign)
    return signs
