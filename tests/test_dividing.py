import unittest

import by_fractions

from zerofence.curves import plain, slope, times_curve
from zerofence.dividing import left, shared, simple

MUCH = 10 ** 119


def times_all(curves):
    product = [1]
    for curve in curves:
        product = times_curve(product, curve)
    return product


class WhatIsLeft(unittest.TestCase):
    def test_of_the_documents_curve(self):
        self.assertEqual(left([1, 0, 1], [1, 2]), [1])

    def test_where_the_other_one_goes_into_the_curve(self):
        self.assertEqual(left([-1, 0, 1], [1, 1]), [])
        self.assertEqual(left([-1, 0, 1], [3, 3]), [])
        self.assertEqual(left([1, 2], [2, 4]), [])
        self.assertEqual(left([1, 2], [-3, -6]), [])
        self.assertEqual(left([7, 5, 3], [2]), [])
        self.assertEqual(left([5], [-3]), [])
        self.assertEqual(left([], [4, 0, 1]), [])
        self.assertEqual(left([], [4]), [])

    def test_the_sign_where_the_last_number_is_below_nought(self):
        self.assertEqual(left([1, 0, 1], [-1, -2]), [1])
        self.assertEqual(left([-1, 0, -1], [1, 2]), [-1])
        self.assertEqual(left([-1, 0, -1], [-1, -2]), [-1])
        # One step alone, where the factor is taken once, an odd number of times.
        self.assertEqual(left([5, 1], [1, -1]), [1])
        self.assertEqual(left([-5, 1], [1, -1]), [-1])
        self.assertEqual(left([5, -1], [1, -1]), [1])

    def test_a_step_that_takes_off_more_than_one_number(self):
        self.assertEqual(left([1, 0, 0, -1], [0, 0, -3]), [1])
        self.assertEqual(left([3, 1, 0, 0, 2], [0, 0, 0, -5]), [3, 1])

    def test_a_curve_with_fewer_numbers_than_the_other_one(self):
        self.assertEqual(left([4], [1, 1]), [1])
        self.assertEqual(left([-4, 6], [1, 1, -1]), [-2, 3])
        self.assertEqual(left([3, -5], [0, 0, 0, 7]), [3, -5])

    def test_every_small_curve_by_every_other(self):
        curves = by_fractions.small_curves(4, 1) + by_fractions.small_curves(2, 4)
        for curve in curves:
            for other in curves:
                if other:
                    with self.subTest(curve=curve, other=other):
                        self.assertEqual(left(curve, other), by_fractions.left(curve, other))

    def test_it_has_fewer_numbers_and_is_plain(self):
        curve, other = by_fractions.large_curves(9, 2, 16, 120)
        for length in range(1, 17):
            rest = left(curve, other[:length])
            self.assertLess(len(rest), length)
            self.assertEqual(rest, plain(rest))

    def test_numbers_of_many_figures(self):
        curves = by_fractions.large_curves(10, 4, 16, 120)
        for curve in curves:
            for other in curves:
                for length in (1, 2, 7, 15, 16):
                    with self.subTest(length=length):
                        self.assertEqual(left(curve, other[:length]), by_fractions.left(curve, other[:length]))


class WhatTwoCurvesShare(unittest.TestCase):
    def test_of_the_documents_curves(self):
        self.assertEqual(shared([-1, 0, 1], [2, 4, 2]), [1, 1])
        self.assertEqual(shared([2, 4, 2], [-1, 0, 1]), [1, 1])

    def test_a_curve_and_nought(self):
        for curve, asked in [([4], [1]), ([-4], [1]), ([4, -6], [-2, 3]), ([-4, 0, 6], [-2, 0, 3])]:
            with self.subTest(curve=curve):
                self.assertEqual(shared(curve, []), asked)
                self.assertEqual(shared([], curve), asked)

    def test_nought_and_nought(self):
        self.assertEqual(shared([], []), [])

    def test_curves_that_share_no_root(self):
        self.assertEqual(shared([-2, 0, 1], [-3, 0, 1]), [1])
        self.assertEqual(shared([4], [6]), [1])
        self.assertEqual(shared([6, 0, 2], [-4]), [1])
        self.assertEqual(shared([-4], [6, 0, 2]), [1])

    def test_a_curve_and_itself(self):
        self.assertEqual(shared([4, -2], [4, -2]), [-2, 1])
        self.assertEqual(shared([4, -2], [-4, 2]), [-2, 1])

    def test_the_last_number_is_above_nought(self):
        self.assertEqual(shared([1, 0, -1], [-2, -4, -2]), [1, 1])
        self.assertEqual(shared([0, -3], [0, 0, -3]), [0, 1])

    def test_every_two_small_curves(self):
        curves = by_fractions.small_curves(4, 1) + by_fractions.small_curves(2, 3)
        for curve in curves:
            for other in curves:
                with self.subTest(curve=curve, other=other):
                    self.assertEqual(shared(curve, other), by_fractions.shared(curve, other))

    def test_curves_made_of_known_ones(self):
        both = times_all([[-2, 0, 1], [3, 2], [1, 1, 5]])
        one = times_all([both, [7, -3], [-11, 0, 0, -4]])
        two = times_all([both, [8, 3], [1, 0, 0, 0, -2], [-6]])
        self.assertEqual(shared(one, two), both)
        self.assertEqual(shared(two, one), both)

    def test_sixteen_numbers_of_many_figures(self):
        both = plain(by_fractions.large_curves(11, 1, 8, 60)[0])
        one, two = by_fractions.large_curves(12, 2, 9, 58)
        asked = both if both[-1] > 0 else [-number for number in both]
        self.assertEqual(shared(times_curve(both, one), times_curve(both, two)), asked)
        one, two = by_fractions.large_curves(13, 2, 16, 120)
        self.assertEqual(shared(one, two), [1])


class TheSimpleCurve(unittest.TestCase):
    def test_of_the_documents_curve(self):
        self.assertEqual(simple([2, -4, 2]), [-1, 1])

    def test_the_sign_of_the_last_number_stays(self):
        self.assertEqual(simple([-2, 4, -2]), [1, -1])
        self.assertEqual(simple([2, 0, -1]), [2, 0, -1])
        self.assertEqual(simple([0, 0, 0, -8]), [0, -1])

    def test_of_one_number(self):
        self.assertEqual(simple([7]), [1])
        self.assertEqual(simple([1]), [1])
        self.assertEqual(simple([-7]), [-1])
        self.assertEqual(simple([-MUCH]), [-1])

    def test_of_two_numbers(self):
        self.assertEqual(simple([6, 4]), [3, 2])
        self.assertEqual(simple([6, -4]), [3, -2])

    def test_a_curve_with_each_root_once_is_made_plain(self):
        self.assertEqual(simple([-4, 0, 2]), [-2, 0, 1])
        self.assertEqual(simple([3, 0, 3]), [1, 0, 1])

    def test_of_every_small_curve(self):
        for curve in by_fractions.small_curves(5, 1) + by_fractions.small_curves(3, 5):
            if curve:
                with self.subTest(curve=curve):
                    self.assertEqual(simple(curve), by_fractions.simple(curve))

    def test_roots_that_are_one_many_times(self):
        parts = [[-2, 0, 1], [3, 2], [1, 0, 5]]
        curve = times_all([parts[0]] * 2 + [parts[1]] * 5 + [parts[2]] * 3 + [[-12]])
        self.assertEqual(len(curve), 16)
        self.assertEqual(simple(curve), [-number for number in times_all(parts)])
        self.assertEqual(simple(times_all([[-3, 7]] * 15)), [-3, 7])

    def test_times_what_curve_and_slope_share_it_is_the_plain_curve(self):
        for part in by_fractions.large_curves(14, 4, 5, 25):
            curve = times_all([part, part, part, [-6, 0, 10]])
            product = times_curve(simple(curve), shared(curve, slope(curve)))
            self.assertEqual(product, plain(curve))
            self.assertEqual(len(simple(curve)), 7)

    def test_sixteen_numbers_of_many_figures(self):
        curve = by_fractions.large_curves(15, 1, 16, 120)[0]
        self.assertEqual(simple(curve), plain(curve))


if __name__ == "__main__":
    unittest.main()
