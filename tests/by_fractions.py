"""The same answers by another way, with fractions, and curves to ask them of."""

from fractions import Fraction
from itertools import product
from math import gcd
from random import Random


def value_at(curve, place):
    x = Fraction(place[0], place[1])
    return sum((number * x ** power for power, number in enumerate(curve)), Fraction(0))


def sign_at(curve, place):
    value = value_at(curve, place)
    return (value > 0) - (value < 0)


def plain_of_fractions(fractions):
    """The whole numbers, with nothing above one in all of them, that are these times a number above nought."""
    below = 1
    for number in fractions:
        below = below * number.denominator // gcd(below, number.denominator)
    numbers = [int(number * below) for number in fractions]
    divisor = gcd(*numbers)
    return [number // divisor for number in numbers]


def divided(curve, other):
    """The quotient and the rest, both as lists of fractions."""
    rest = [Fraction(number) for number in curve]
    quotient = []
    while len(rest) >= len(other):
        factor = rest[-1] / other[-1]
        quotient.insert(0, factor)
        shift = len(rest) - len(other)
        for power, number in enumerate(other):
            rest[shift + power] -= factor * number
        rest.pop()
    while rest and rest[-1] == 0:
        rest.pop()
    return quotient, rest


def left(curve, other):
    return plain_of_fractions(divided(curve, other)[1])


def shared(curve, other):
    one = [Fraction(number) for number in curve]
    two = [Fraction(number) for number in other]
    while two:
        one, two = two, divided(one, two)[1]
    return plain_of_fractions([number / one[-1] for number in one]) if one else []


def simple(curve):
    slope = [power * number for power, number in enumerate(curve)][1:]
    return plain_of_fractions(divided(curve, shared(curve, slope))[0])


def chain(curve):
    first = simple(curve)
    links = [first, plain_of_fractions([Fraction(power * number) for power, number in enumerate(first)][1:])]
    while links[-1]:
        links.append([-number for number in left(links[-2], links[-1])])
    return links[:-1]


def changes(curve, place):
    signs = [sign_at(link, place) for link in chain(curve)]
    kept = [sign for sign in signs if sign != 0]
    return sum(one != other for one, other in zip(kept, kept[1:]))


def small_curves(most, span):
    """Every curve of at most so many numbers, each from -span to span; nought among them."""
    curves = [[]]
    for length in range(1, most + 1):
        for numbers in product(range(-span, span + 1), repeat=length):
            if numbers[-1] != 0:
                curves.append(list(numbers))
    return curves


def large_curves(seed, count, length, figures):
    """The same curves for the same seed: so many, with so many numbers of so many figures."""
    source = Random(seed)
    below = 10 ** (figures - 1)
    return [
        [source.choice([-1, 1]) * source.randrange(below, 10 * below) for _ in range(length)]
        for _ in range(count)
    ]
