"""What is left of a curve by another one, what two curves share, and the simple curve."""

from zerofence.checks import check_curve, check_not_nought
from zerofence.curves import plain, slope


def left(curve, other):
    check_curve(curve)
    check_curve(other)
    check_not_nought(other)
    rest = list(curve)
    while len(rest) >= len(other):
        rest = without_last(rest, other)
    return plain(rest)


# The curve is taken times the absolute last number of the other one, never times
# a number below nought: that would turn the signs of what is left.
def without_last(curve, other):
    scale = abs(other[-1])
    factor = curve[-1] if other[-1] > 0 else -curve[-1]
    scaled = [scale * number for number in curve]
    return trimmed(taken_off(scaled, other, factor, len(curve) - len(other)))


def taken_off(numbers, other, factor, shift):
    rest = list(numbers)
    for power, number in enumerate(other):
        rest[shift + power] = rest[shift + power] - factor * number
    return rest


def trimmed(numbers):
    end = len(numbers)
    while end > 0 and numbers[end - 1] == 0:
        end = end - 1
    return numbers[:end]


def shared(curve, other):
    check_curve(curve)
    check_curve(other)
    ahead = curve
    behind = other
    while len(behind) > 0:
        rest = left(ahead, behind)
        ahead = behind
        behind = rest
    return with_last_above(plain(ahead))


def with_last_above(curve):
    if len(curve) > 0 and curve[-1] < 0:
        return [-number for number in curve]
    return curve


def simple(curve):
    check_curve(curve)
    check_not_nought(curve)
    return divided_out(plain(curve), shared(curve, slope(curve)))


# Where both curves are plain and the other one goes into the curve, each number
# of the quotient is whole, so the division here never has a rest.
def divided_out(curve, other):
    rest = curve
    highest = len(curve) - len(other)
    quotient = [0] * (highest + 1)
    for shift in range(highest, -1, -1):
        factor = rest[shift + len(other) - 1] // other[-1]
        quotient[shift] = factor
        rest = taken_off(rest, other, factor, shift)
    return quotient
