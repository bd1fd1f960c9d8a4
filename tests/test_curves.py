import math
import unittest

import by_fractions

from zerofence.curves import plain, sign_at, slope, times_curve

PLACES = [(0, 1), (0, 7), (1, 1), (-1, 1), (2, 1), (-2, 1), (1, 2), (-1, 2), (-3, 2), (-6, 4), (5, 3), (1000, 1)]
MUCH = 10 ** 119


class TheSignAtAPlace(unittest.TestCase):
    def test_of_the_square_less_two(self):
        curve = [-2, 0, 1]
        self.assertEqual(sign_at(curve, (0, 1)), -1)
        self.assertEqual(sign_at(curve, (7, 5)), -1)
        self.assertEqual(sign_at(curve, (3, 2)), 1)
        self.assertEqual(sign_at(curve, (-7, 5)), -1)
        self.assertEqual(sign_at(curve, (-3, 2)), 1)

    def test_at_a_root(self):
        self.assertEqual(sign_at([3, 2], (-3, 2)), 0)
        self.assertEqual(sign_at([-1, 0, 0, 27], (1, 3)), 0)
        self.assertEqual(sign_at([0, 5], (0, 9)), 0)

    def test_an_odd_power_below_nought(self):
        self.assertEqual(sign_at([0, 0, 0, 1], (-1, 2)), -1)
        self.assertEqual(sign_at([0, 0, 0, -1], (-1, 2)), 1)

    def test_the_same_place_written_otherwise(self):
        self.assertEqual(sign_at([3, 2], (-6, 4)), 0)
        for curve in by_fractions.small_curves(4, 2):
            with self.subTest(curve=curve):
                self.assertEqual(sign_at(curve, (-3, 2)), sign_at(curve, (-6, 4)))

    def test_of_a_curve_of_one_number(self):
        for place in PLACES:
            self.assertEqual(sign_at([4], place), 1)
            self.assertEqual(sign_at([-4], place), -1)

    def test_of_nought(self):
        for place in PLACES:
            self.assertEqual(sign_at([], place), 0)

    def test_of_every_small_curve(self):
        for curve in by_fractions.small_curves(4, 2):
            for place in PLACES:
                with self.subTest(curve=curve, place=place):
                    self.assertEqual(sign_at(curve, place), by_fractions.sign_at(curve, place))

    def test_numbers_of_many_figures(self):
        self.assertEqual(sign_at([-MUCH, 1], (MUCH, 1)), 0)
        self.assertEqual(sign_at([-MUCH, 1], (MUCH - 1, 1)), -1)
        self.assertEqual(sign_at([-MUCH, 1], (MUCH + 1, 1)), 1)
        self.assertEqual(sign_at([MUCH, MUCH + 1], (-MUCH, MUCH + 1)), 0)
        self.assertEqual(sign_at([MUCH, MUCH + 1], (-MUCH - 1, MUCH + 1)), -1)
        self.assertEqual(sign_at([MUCH, MUCH + 1], (-MUCH + 1, MUCH + 1)), 1)

    def test_forty_numbers_of_many_figures(self):
        places = [(-MUCH + 7, 3), (MUCH + 1, MUCH), (-MUCH, 10 * MUCH - 1), (-1, 1), (-5, 7), (11, 13)]
        for curve in by_fractions.large_curves(4, 8, 40, 120):
            for place in places:
                self.assertEqual(sign_at(curve, place), by_fractions.sign_at(curve, place))

    def test_close_to_a_root_with_forty_numbers(self):
        # x to the 39th less 1 at places that no rounded number tells from 1.
        curve = [-1] + [0] * 38 + [1]
        self.assertEqual(sign_at(curve, (MUCH, MUCH)), 0)
        self.assertEqual(sign_at(curve, (MUCH - 1, MUCH)), -1)
        self.assertEqual(sign_at(curve, (MUCH + 1, MUCH)), 1)
        self.assertEqual(sign_at([1] + curve[1:], (-MUCH, MUCH)), 0)
        self.assertEqual(sign_at([1] + curve[1:], (-MUCH - 1, MUCH)), -1)


class TheSlope(unittest.TestCase):
    def test_of_the_documents_curves(self):
        self.assertEqual(slope([5, -2, 0, 7]), [-2, 0, 21])
        self.assertEqual(slope([5]), [])
        self.assertEqual(slope([]), [])

    def test_of_others(self):
        self.assertEqual(slope([0, 1]), [1])
        self.assertEqual(slope([3, -MUCH]), [-MUCH])
        self.assertEqual(slope([0, 0, 0, 0, 9]), [0, 0, 0, 36])

    def test_of_forty_numbers(self):
        self.assertEqual(slope([1] * 40), list(range(1, 40)))


class ThePlainCurve(unittest.TestCase):
    def test_of_the_documents_curve(self):
        self.assertEqual(plain([-4, 0, 6]), [-2, 0, 3])

    def test_of_nought(self):
        self.assertEqual(plain([]), [])

    def test_of_one_number(self):
        self.assertEqual(plain([7]), [1])
        self.assertEqual(plain([-7]), [-1])

    def test_signs_stay(self):
        self.assertEqual(plain([6, -9, -15]), [2, -3, -5])
        self.assertEqual(plain([0, 0, -3]), [0, 0, -1])

    def test_a_plain_curve_stays(self):
        self.assertEqual(plain([6, 10, 15]), [6, 10, 15])
        self.assertEqual(plain([-1, 4]), [-1, 4])

    def test_every_small_curve(self):
        for curve in by_fractions.small_curves(3, 6):
            with self.subTest(curve=curve):
                divisor = math.gcd(*curve)
                self.assertEqual(plain(curve), [number // divisor for number in curve])

    def test_numbers_of_many_figures(self):
        self.assertEqual(plain([-2 * MUCH, 0, 4 * MUCH, 6 * MUCH]), [-1, 0, 2, 3])
        self.assertEqual(plain([MUCH, MUCH + 1]), [MUCH, MUCH + 1])

    def test_forty_numbers(self):
        for curve in by_fractions.large_curves(6, 4, 40, 110):
            divisor = math.gcd(*curve)
            numbers = [number // divisor for number in curve]
            self.assertEqual(plain([number * 123456789 for number in numbers]), numbers)


class OneCurveTimesAnother(unittest.TestCase):
    def test_some(self):
        self.assertEqual(times_curve([-1, 1], [1, 1]), [-1, 0, 1])
        self.assertEqual(times_curve([-1, 2], [1, 2]), [-1, 0, 4])
        self.assertEqual(times_curve([3], [1, -2, 5]), [3, -6, 15])
        self.assertEqual(times_curve([0, 0, 1], [4, 5]), [0, 0, 4, 5])
        self.assertEqual(times_curve([-2], [-3]), [6])

    def test_with_nought(self):
        for curve in [[], [5], [1, 2, 3]]:
            self.assertEqual(times_curve(curve, []), [])
            self.assertEqual(times_curve([], curve), [])

    def test_the_order_is_free(self):
        curves = by_fractions.small_curves(3, 2)
        for curve in curves:
            for other in curves:
                with self.subTest(curve=curve, other=other):
                    self.assertEqual(times_curve(curve, other), times_curve(other, curve))

    def test_it_gives_what_the_two_give_taken_times_one_another(self):
        curves = by_fractions.small_curves(3, 1)
        places = [(-7, 3), (0, 1), (1, 2), (3, 1), (10, 1)]
        for curve in curves:
            for other in curves:
                product = times_curve(curve, other)
                self.assertTrue(not product or product[-1] != 0)
                for place in places:
                    with self.subTest(curve=curve, other=other, place=place):
                        self.assertEqual(
                            by_fractions.value_at(product, place),
                            by_fractions.value_at(curve, place) * by_fractions.value_at(other, place),
                        )

    def test_forty_numbers_of_many_figures(self):
        curve, other = by_fractions.large_curves(8, 2, 40, 120)
        product = times_curve(curve, other)
        self.assertEqual(len(product), 79)
        # At a place this far out no two numbers of the product overlap, so one value tells them all.
        place = (10 ** 260, 1)
        self.assertEqual(
            by_fractions.value_at(product, place),
            by_fractions.value_at(curve, place) * by_fractions.value_at(other, place),
        )


if __name__ == "__main__":
    unittest.main()
