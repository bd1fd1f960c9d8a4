"""Curves made of parts whose roots are known, with these roots set beside places exactly.

A root is told as three numbers p, s and d: it is p and s times the square root of d.
"""

from fractions import Fraction
from math import isqrt
from random import Random

from zerofence.curves import times_curve


def roots_of_part(part):
    """The roots of a part of three numbers or fewer, rising, each once."""
    if len(part) == 1:
        return []
    if len(part) == 2:
        return [(Fraction(-part[0], part[1]), Fraction(0), 0)]
    below = 2 * part[2]
    inside = part[1] ** 2 - 4 * part[0] * part[2]
    if inside < 0:
        return []
    if inside == 0:
        return [(Fraction(-part[1], below), Fraction(0), 0)]
    step = Fraction(1, abs(below))
    return [(Fraction(-part[1], below), sign * step, inside) for sign in (-1, 1)]


def side(root, place):
    """1, 0 or -1: whether the root is greater than the place, there, or less."""
    ahead = root[0] - Fraction(place[0], place[1])
    # Squares with the signs kept stand in the same order as what they are squares of.
    told = ahead * abs(ahead) + root[1] * abs(root[1]) * root[2]
    return (told > 0) - (told < 0)


def is_in(root, low, high):
    return side(root, low) > 0 and side(root, high) <= 0


def rising(roots):
    def close_to(root):
        return root[0] + root[1] * Fraction(isqrt(root[2] * 10 ** 1600), 10 ** 800)

    return sorted(roots, key=close_to)


class Made:
    """A curve made of parts that have no root in common, each taken so many times, and of one factor."""

    def __init__(self, parts, factor=1):
        self.curve = [factor]
        self.times = {}
        for part, times in parts:
            for _ in range(times):
                self.curve = times_curve(self.curve, part)
            for root in roots_of_part(part):
                self.times[root] = times
        self.roots = rising(self.times)

    def between(self, low, high):
        return sum(is_in(root, low, high) for root in self.roots)

    def with_times(self, low, high):
        return sum(self.times[root] for root in self.roots if is_in(root, low, high))

    def signs(self):
        """From the right, where the last number tells the sign, to the left."""
        signs = [1 if self.curve[-1] > 0 else -1]
        for root in reversed(self.roots):
            signs.insert(0, signs[0] * (-1) ** self.times[root])
        return signs


# No two of these have a root in common; the last two have none, and four have roots that are no fractions.
PARTS = [
    [0, 1], [-1, 1], [1, 1], [-1, 2], [3, 2], [-5, 3], [-1000, 1], [1000, 1], [-7, 100], [22, -7],
    [-2, 0, 1], [-3, 0, 1], [-1, -1, 1], [5, 7, -2],
    [1, 0, 1], [3, -1, 2],
]

MADE = [
    Made([], 1), Made([], -7),
    Made([([-1, 1], 1)]), Made([([-1, 1], 2)], 2), Made([([-1, 1], 3)], -1),
    Made([([0, 1], 8)]), Made([([0, 1], 7)], -3),
    Made([([1, 0, 1], 1)]), Made([([1, 0, 1], 4)], -2), Made([([3, -1, 2], 1), ([1, 0, 1], 3)]),
    Made([([-2, 0, 1], 1)]), Made([([-2, 0, 1], 2)], -1), Made([([-2, 0, 1], 3)]), Made([([-2, 0, 1], 4)], 5),
    Made([([-1, 1], 1), ([1, 1], 2), ([-1, 2], 3)]),
    Made([([-1000, 1], 1), ([1000, 1], 1)]), Made([([-1000, 1], 3), ([1000, 1], 2), ([0, 1], 1)], -1),
    Made([([-number, 1], 1) for number in range(1, 9)]),
    Made([([-number, 1], 1) for number in (-1000, -999, -998, 0, 1, 998, 999, 1000)], -4),
]


def some_made(seed, count):
    """The same curves for the same seed: so many, of at most nine numbers."""
    source = Random(seed)
    made = []
    while len(made) < count:
        parts = [(part, source.choice([1, 1, 2, 3])) for part in source.sample(PARTS, source.randrange(1, 6))]
        one = Made(parts, source.choice([1, -1, 6, -35]))
        if len(one.curve) <= 9:
            made.append(one)
    return made
