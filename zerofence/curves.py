"""Curves: their sign at a place, their slope, their plain curve, and their product."""

from zerofence.checks import check_curve, check_place


# The value is taken times the parts of one, to the curve's highest power: so it
# stays whole, and as these parts are above nought, its sign stays too.
def sign_at(curve, place):
    check_curve(curve)
    check_place(place)
    value = 0
    scale = 1
    for at in range(len(curve) - 1, -1, -1):
        value = value * place[0] + curve[at] * scale
        scale = scale * place[1]
    return sign_of(value)


def sign_of(number):
    if number > 0:
        return 1
    if number < 0:
        return -1
    return 0


def slope(curve):
    check_curve(curve)
    return [power * curve[power] for power in range(1, len(curve))]


def plain(curve):
    check_curve(curve)
    divisor = 0
    for number in curve:
        divisor = greatest_in_both(number, divisor)
    return [number // divisor for number in curve]


# Nought and a number give that number without its sign, so a search through
# many numbers can begin with nought.
def greatest_in_both(first, second):
    high = abs(first)
    low = abs(second)
    while low > 0:
        rest = high % low
        high = low
        low = rest
    return high


def times_curve(curve, other):
    check_curve(curve)
    check_curve(other)
    if len(curve) == 0 or len(other) == 0:
        return []
    product = [0] * (len(curve) + len(other) - 1)
    for power, number in enumerate(curve):
        for shift, factor in enumerate(other):
            product[power + shift] = product[power + shift] + number * factor
    return product
