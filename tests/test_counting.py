import unittest
from fractions import Fraction

import by_fractions
import by_roots

from zerofence.chains import changes
from zerofence.counting import reach, roots_between, roots_in_all, roots_with_times
from zerofence.curves import times_curve

MUCH = 10 ** 119
PLACES = [(-1001, 1), (-1000, 1), (-3, 2), (-7, 5), (-1, 1), (-2, 3), (0, 1), (1, 3), (1, 2), (1, 1), (70, 70),
          (7, 5), (3, 2), (5, 3), (10, 3), (1000, 1), (1001, 1)]


def stretches_of(places):
    for low in places:
        for high in places:
            if Fraction(*low) <= Fraction(*high):
                yield low, high


class RootsBetween(unittest.TestCase):
    def test_of_the_square_less_two(self):
        curve = [-2, 0, 1]
        self.assertEqual(roots_between(curve, (-2, 1), (2, 1)), 2)
        self.assertEqual(roots_between(curve, (0, 1), (2, 1)), 1)
        self.assertEqual(roots_between(curve, (7, 5), (3, 2)), 1)
        self.assertEqual(roots_between(curve, (-7, 5), (7, 5)), 0)
        self.assertEqual(roots_between(curve, (3, 2), (9, 1)), 0)

    def test_a_root_at_the_low_place_is_not_counted(self):
        self.assertEqual(roots_between([-1, 1], (1, 1), (5, 1)), 0)
        self.assertEqual(roots_between([-1, 0, 1], (-1, 1), (5, 1)), 1)
        self.assertEqual(roots_between([3, 2], (-6, 4), (0, 1)), 0)

    def test_a_root_at_the_high_place_is_counted(self):
        self.assertEqual(roots_between([-1, 1], (0, 1), (1, 1)), 1)
        self.assertEqual(roots_between([-1, 0, 1], (-1, 1), (1, 1)), 1)
        self.assertEqual(roots_between([-1, 0, 1], (-2, 1), (1, 1)), 2)
        self.assertEqual(roots_between([3, 2], (-2, 1), (-6, 4)), 1)

    def test_low_and_high_the_same_place(self):
        for curve in [[-1, 1], [-2, 0, 1], [3, 2], [7]]:
            for low, high in [((1, 1), (1, 1)), ((1, 1), (7, 7)), ((-3, 2), (-6, 4)), ((-6, 4), (-3, 2)),
                              ((0, 1), (0, 9))]:
                with self.subTest(curve=curve, low=low, high=high):
                    self.assertEqual(roots_between(curve, low, high), 0)
                    self.assertEqual(roots_with_times(curve, low, high), 0)

    def test_roots_told_more_than_once_count_once(self):
        self.assertEqual(roots_between([2, -4, 2], (0, 1), (1, 1)), 1)
        self.assertEqual(roots_between([4, 0, -4, 0, 1], (-2, 1), (2, 1)), 2)
        self.assertEqual(roots_between([0, 0, 0, -5], (-1, 1), (0, 1)), 1)

    def test_a_curve_of_one_number_has_none(self):
        for number in (1, -1, 7, -MUCH):
            self.assertEqual(roots_between([number], (-MUCH, 1), (MUCH, 1)), 0)

    def test_curves_made_of_known_roots(self):
        for made in by_roots.MADE + by_roots.some_made(40, 40):
            for low, high in stretches_of(PLACES):
                with self.subTest(curve=made.curve, low=low, high=high):
                    self.assertEqual(roots_between(made.curve, low, high), made.between(low, high))

    def test_every_curve_of_three_small_numbers(self):
        places = [(-3, 1), (-3, 2), (-2, 2), (-1, 3), (0, 1), (1, 2), (1, 1), (5, 4), (3, 1)]
        for curve in by_fractions.small_curves(3, 3)[1:]:
            made = by_roots.Made([(curve, 1)])
            for low, high in stretches_of(places):
                with self.subTest(curve=curve, low=low, high=high):
                    self.assertEqual(roots_between(curve, low, high), made.between(low, high))

    def test_they_are_the_changes_less_the_changes(self):
        for curve in by_fractions.large_curves(41, 3, 9, 120):
            for low, high in stretches_of([(-50, 1), (-1, 1), (-1, 3), (0, 1), (2, 3), (1, 1), (50, 1)]):
                self.assertEqual(roots_between(curve, low, high), changes(curve, low) - changes(curve, high))

    def test_places_of_many_figures(self):
        # The square root of 2 lies between these two, which are less than 1 / MUCH apart.
        below = 0
        for bit in range(400, -1, -1):
            if (below + 2 ** bit) ** 2 < 2 * MUCH ** 2:
                below = below + 2 ** bit
        self.assertEqual(roots_between([-2, 0, 1], (below, MUCH), (below + 1, MUCH)), 1)
        self.assertEqual(roots_between([-2, 0, 1], (below - 1, MUCH), (below, MUCH)), 0)
        self.assertEqual(roots_between([-2, 0, 1], (-below - 1, MUCH), (-below, MUCH)), 1)
        self.assertEqual(roots_between([-MUCH, 3], (MUCH - 1, 3), (MUCH, 3)), 1)
        self.assertEqual(roots_between([-MUCH, 3], (MUCH, 3), (MUCH + 1, 3)), 0)
        self.assertEqual(roots_between([-1, MUCH], (1, MUCH + 1), (1, MUCH)), 1)
        self.assertEqual(roots_between([-1, MUCH], (1, MUCH), (1, MUCH - 1)), 0)

    def test_nine_numbers_with_roots_close_to_one_another(self):
        made = by_roots.Made([([-(10 ** 14 + step), 10 ** 14], 1) for step in range(8)])
        for first in range(9):
            for last in range(first, 9):
                low = (10 ** 14 + first - 1, 10 ** 14)
                high = (10 ** 14 + last - 1, 10 ** 14)
                self.assertEqual(roots_between(made.curve, low, high), last - first)

    def test_somewhat_more_than_nine_numbers(self):
        made = by_roots.Made([([-number, 1], 1) for number in range(11)])
        self.assertEqual(roots_between(made.curve, (0, 1), (10, 1)), 10)
        self.assertEqual(roots_in_all(made.curve), 11)


class RootsInAll(unittest.TestCase):
    def test_with_no_root(self):
        for curve in [[1, 0, 1], [-3, -1, -2], [1, 0, 2, 0, 1], [5], [-5], [MUCH, 0, 1]]:
            with self.subTest(curve=curve):
                self.assertEqual(roots_in_all(curve), 0)

    def test_with_roots_that_are_no_fractions(self):
        self.assertEqual(roots_in_all([-2, 0, 1]), 2)
        self.assertEqual(roots_in_all([-2, 0, 0, 1]), 1)
        self.assertEqual(roots_in_all([-1, -1, 0, 0, 0, 1]), 1)
        self.assertEqual(roots_in_all([1, 0, -32, 0, 160, 0, -256, 0, 128]), 8)

    def test_with_roots_told_more_than_once(self):
        self.assertEqual(roots_in_all([2, -4, 2]), 1)
        self.assertEqual(roots_in_all([0, 0, 0, -5]), 1)

    def test_with_roots_far_off(self):
        self.assertEqual(roots_in_all([-MUCH, 1]), 1)
        self.assertEqual(roots_in_all([-MUCH, 0, 1]), 2)
        self.assertEqual(roots_in_all([1, 10 * MUCH - 1, 1]), 2)

    def test_curves_made_of_known_roots(self):
        for made in by_roots.MADE + by_roots.some_made(42, 100):
            with self.subTest(curve=made.curve):
                self.assertEqual(roots_in_all(made.curve), len(made.roots))

    def test_every_curve_of_three_small_numbers(self):
        for curve in by_fractions.small_curves(3, 5)[1:]:
            with self.subTest(curve=curve):
                self.assertEqual(roots_in_all(curve), len(by_roots.roots_of_part(curve)))


class RootsWithTimes(unittest.TestCase):
    def test_of_the_documents_curve(self):
        self.assertEqual(roots_with_times([2, -4, 2], (0, 1), (2, 1)), 2)

    def test_a_root_that_is_one_once_twice_and_three_times(self):
        curve = by_roots.Made([([-1, 1], 1), ([-2, 1], 2), ([-3, 1], 3)], -2).curve
        self.assertEqual(roots_with_times(curve, (0, 1), (1, 1)), 1)
        self.assertEqual(roots_with_times(curve, (1, 1), (2, 1)), 2)
        self.assertEqual(roots_with_times(curve, (2, 1), (3, 1)), 3)
        self.assertEqual(roots_with_times(curve, (0, 1), (3, 1)), 6)
        self.assertEqual(roots_with_times(curve, (3, 2), (9, 1)), 5)

    def test_a_root_at_the_low_place_and_one_at_the_high_place(self):
        curve = [2, -4, 2]
        self.assertEqual(roots_with_times(curve, (1, 1), (2, 1)), 0)
        self.assertEqual(roots_with_times(curve, (0, 1), (1, 1)), 2)
        self.assertEqual(roots_with_times(curve, (0, 1), (9, 10)), 0)
        both = by_roots.Made([([1, 1], 3), ([-1, 1], 2)]).curve
        self.assertEqual(roots_with_times(both, (-1, 1), (1, 1)), 2)
        self.assertEqual(roots_with_times(both, (-2, 1), (1, 1)), 5)
        self.assertEqual(roots_with_times(both, (-2, 1), (-1, 1)), 3)

    def test_roots_that_are_no_fractions(self):
        curve = times_curve([4, 0, -4, 0, 1], [-2, 0, 1])
        self.assertEqual(roots_with_times(curve, (0, 1), (2, 1)), 3)
        self.assertEqual(roots_with_times(curve, (-2, 1), (2, 1)), 6)

    def test_with_no_root(self):
        for curve in [[5], [-5], [1, 0, 1], [1, 0, 2, 0, 1]]:
            self.assertEqual(roots_with_times(curve, (-9, 1), (9, 1)), 0)

    def test_curves_made_of_known_roots(self):
        for made in by_roots.MADE + by_roots.some_made(43, 40):
            for low, high in stretches_of(PLACES[::2]):
                with self.subTest(curve=made.curve, low=low, high=high):
                    self.assertEqual(roots_with_times(made.curve, low, high), made.with_times(low, high))

    def test_every_root_one_eight_times(self):
        curve = by_roots.Made([([-10 ** 14 - 1, 10 ** 14], 8)]).curve
        self.assertEqual(roots_with_times(curve, (1, 1), (10 ** 14 + 1, 10 ** 14)), 8)
        self.assertEqual(roots_with_times(curve, (0, 1), (1, 1)), 0)


class TheReach(unittest.TestCase):
    def test_of_one_number(self):
        for number in (1, -1, 7, -MUCH):
            self.assertEqual(reach([number]), 2)

    def test_where_the_last_number_goes_evenly(self):
        self.assertEqual(reach([-6, 3]), 4)
        self.assertEqual(reach([-2, 0, 1]), 4)
        self.assertEqual(reach([0, 0, 5]), 2)
        self.assertEqual(reach([4, 4]), 3)

    def test_where_the_last_number_does_not_go_evenly(self):
        self.assertEqual(reach([7, 2]), 5)
        self.assertEqual(reach([-7, 2]), 5)
        self.assertEqual(reach([1, -11, 3, 4]), 4)
        self.assertEqual(reach([3, 4]), 2)

    def test_with_a_last_number_below_nought(self):
        self.assertEqual(reach([7, -2]), 5)
        self.assertEqual(reach([-7, -2]), 5)
        self.assertEqual(reach([1, -11, 3, -4]), 4)

    def test_the_last_number_is_not_among_the_others(self):
        self.assertEqual(reach([1, 2, 900]), 2)
        self.assertEqual(reach([1, 2, -900]), 2)

    def test_the_greatest_stands_anywhere(self):
        for numbers in ([9, 1, 1], [1, 9, 1], [-9, 1, 1], [1, -9, 1]):
            self.assertEqual(reach(numbers + [2]), 6)

    def test_numbers_of_many_figures(self):
        self.assertEqual(reach([-MUCH, 1]), MUCH + 2)
        self.assertEqual(reach([MUCH + 5, 0, -MUCH]), 3)
        self.assertEqual(reach([1, 3 * MUCH - 1, MUCH]), 4)

    def test_it_is_that_of_the_curve_as_it_stands(self):
        self.assertEqual(reach([2, -4, 2]), 4)
        self.assertEqual(reach([-1, 1]), 3)

    def test_all_roots_lie_closer_to_nought(self):
        for made in by_roots.MADE + by_roots.some_made(44, 100):
            far = reach(made.curve)
            for root in made.roots:
                with self.subTest(curve=made.curve):
                    self.assertEqual(by_roots.side(root, (-far, 1)), 1)
                    self.assertEqual(by_roots.side(root, (far, 1)), -1)


if __name__ == "__main__":
    unittest.main()
