import copy
import unittest

from zerofence.chains import chain, changes
from zerofence.counting import reach, roots_between, roots_in_all, roots_with_times
from zerofence.curves import plain, sign_at, slope, times_curve
from zerofence.dividing import left, shared, simple
from zerofence.errors import FenceError, NoCurve, NoFine, NoLine, NoPlace, NoStretch, Nought
from zerofence.fences import signs_over, stretches
from zerofence.notes import read, shown

NO_CURVES = [[0], [0, 0], [1, 0], [-2, 3, 0], [10 ** 119, 0], [0, 1, 0, 0]]
CURVES = [[1], [-2, 0, 1], [3, -1], [0, 0, 5]]
NO_PLACES = [(1, 0), (0, 0), (3, -1), (-3, -2), (1, -(10 ** 119))]
# Pairs of a low place and a high one that is less.
NO_STRETCHES = [((1, 1), (0, 1)), ((1, 2), (1, 3)), ((-1, 3), (-1, 2)), ((3, 2), (7, 5)), ((0, 1), (-1, 10 ** 119)),
                ((10 ** 119, 3), (10 ** 119 - 1, 3)), ((5, 1), (9, 2))]
NO_FINES = [0, -1, -1000, -(10 ** 119)]

# Each function that takes a curve, by the place in which it takes it.
TAKES_A_CURVE = {
    "sign_at": lambda curve: sign_at(curve, (1, 2)),
    "slope": slope,
    "plain": plain,
    "times_curve, as curve": lambda curve: times_curve(curve, [1, 1]),
    "times_curve, as other": lambda curve: times_curve([1, 1], curve),
    "times_curve, as curve, by nought": lambda curve: times_curve(curve, []),
    "times_curve, as other, by nought": lambda curve: times_curve([], curve),
    "left, as curve": lambda curve: left(curve, [1, 1]),
    "left, as other": lambda curve: left([1, 1], curve),
    "left, as other, of nought": lambda curve: left([], curve),
    "shared, as curve": lambda curve: shared(curve, [1, 1]),
    "shared, as other": lambda curve: shared([1, 1], curve),
    "shared, as curve, with nought": lambda curve: shared(curve, []),
    "shared, as other, with nought": lambda curve: shared([], curve),
    "simple": simple,
    "chain": chain,
    "changes": lambda curve: changes(curve, (1, 2)),
    "roots_between": lambda curve: roots_between(curve, (1, 2), (3, 2)),
    "roots_with_times": lambda curve: roots_with_times(curve, (1, 2), (3, 2)),
    "roots_in_all": roots_in_all,
    "reach": reach,
    "stretches": lambda curve: stretches(curve, 3),
    "signs_over": signs_over,
    "shown": shown,
}

# Each function of a curve alone, or of it and places or parts that are right, that refuses nought.
REFUSES_NOUGHT = ["simple", "chain", "changes", "roots_between", "roots_with_times", "roots_in_all", "reach",
                  "stretches", "signs_over"]

# Each function that takes a place beside the curve, by the place in which it takes it.
TAKES_A_PLACE = {
    "changes": changes,
    "roots_between, as low": lambda curve, place: roots_between(curve, place, (5, 1)),
    "roots_between, as high": lambda curve, place: roots_between(curve, (-5, 1), place),
    "roots_between, as both": lambda curve, place: roots_between(curve, place, place),
    "roots_with_times, as low": lambda curve, place: roots_with_times(curve, place, (5, 1)),
    "roots_with_times, as high": lambda curve, place: roots_with_times(curve, (-5, 1), place),
    "roots_with_times, as both": lambda curve, place: roots_with_times(curve, place, place),
}

TAKES_A_STRETCH = {"roots_between": roots_between, "roots_with_times": roots_with_times}


class NoCurveIsRefused(unittest.TestCase):
    def test_a_last_number_of_nought(self):
        for name, function in TAKES_A_CURVE.items():
            for numbers in NO_CURVES:
                with self.subTest(function=name, numbers=numbers):
                    with self.assertRaises(NoCurve):
                        function(list(numbers))

    def test_a_curve_is_not_refused(self):
        for name, function in TAKES_A_CURVE.items():
            for numbers in CURVES:
                with self.subTest(function=name, numbers=numbers):
                    function(list(numbers))

    def test_the_empty_list_is_nought(self):
        self.assertEqual(sign_at([], (1, 2)), 0)
        self.assertEqual(slope([]), [])
        self.assertEqual(plain([]), [])
        self.assertEqual(times_curve([], [1, 1]), [])
        self.assertEqual(times_curve([1, 1], []), [])
        self.assertEqual(left([], [1, 1]), [])
        self.assertEqual(shared([], [1, 1]), [1, 1])
        self.assertEqual(shared([1, 1], []), [1, 1])
        self.assertEqual(shown([]), "0")


class NoPlaceIsRefused(unittest.TestCase):
    def test_parts_of_less_than_one(self):
        for curve in [[], [7], [-2, 0, 1]]:
            for place in NO_PLACES:
                with self.subTest(curve=curve, place=place):
                    with self.assertRaises(NoPlace):
                        sign_at(curve, place)

    def test_beside_a_curve_that_is_not_nought(self):
        for name, function in TAKES_A_PLACE.items():
            for curve in CURVES:
                for place in NO_PLACES:
                    with self.subTest(function=name, curve=curve, place=place):
                        with self.assertRaises(NoPlace):
                            function(curve, place)

    def test_one_part_is_a_place(self):
        self.assertEqual(sign_at([-2, 0, 1], (2, 1)), 1)
        self.assertEqual(changes([-2, 0, 1], (2, 1)), 0)
        self.assertEqual(roots_between([-2, 0, 1], (-2, 1), (2, 1)), 2)
        self.assertEqual(roots_with_times([-2, 0, 1], (-2, 1), (2, 1)), 2)


class NoStretchIsRefused(unittest.TestCase):
    def test_a_high_place_less_than_the_low_one(self):
        for name, function in TAKES_A_STRETCH.items():
            for curve in CURVES:
                for low, high in NO_STRETCHES:
                    with self.subTest(function=name, curve=curve, low=low, high=high):
                        with self.assertRaises(NoStretch):
                            function(curve, low, high)
                        function(curve, high, low)

    def test_the_same_place_is_a_stretch(self):
        for name, function in TAKES_A_STRETCH.items():
            for low, high in [((0, 1), (0, 1)), ((1, 2), (2, 4)), ((2, 4), (1, 2)), ((-9, 3), (-3, 1))]:
                with self.subTest(function=name, low=low, high=high):
                    self.assertEqual(function([-2, 0, 1], low, high), 0)


class NoFineIsRefused(unittest.TestCase):
    def test_fewer_parts_than_one(self):
        for curve in CURVES:
            for fine in NO_FINES:
                with self.subTest(curve=curve, fine=fine):
                    with self.assertRaises(NoFine):
                        stretches(curve, fine)

    def test_one_part_is_fine(self):
        self.assertEqual(len(stretches([-2, 0, 1], 1)), 2)


class EachRefusal(unittest.TestCase):
    def test_is_a_fence_error_and_a_value_error(self):
        refused = [
            lambda: shown([0]), lambda: reach([]), lambda: changes([1], (1, 0)), lambda: stretches([1], 0),
            lambda: roots_between([1], (1, 1), (0, 1)), lambda: read("+x"),
        ]
        for call, named in zip(refused, [NoCurve, Nought, NoPlace, NoFine, NoStretch, NoLine]):
            with self.subTest(named=named.__name__):
                for taken in (named, FenceError, ValueError):
                    with self.assertRaises(taken):
                        call()


class NoughtIsRefused(unittest.TestCase):
    def test_left_by_nought(self):
        for curve in [[], [3], [1, 0, 1]]:
            with self.subTest(curve=curve):
                with self.assertRaises(Nought):
                    left(curve, [])

    def test_where_the_curve_must_not_be_nought(self):
        for name in REFUSES_NOUGHT:
            with self.subTest(function=name):
                with self.assertRaises(Nought):
                    TAKES_A_CURVE[name]([])


class TheOrderOfRefusals(unittest.TestCase):
    def test_no_curve_ahead_of_nought(self):
        for numbers in NO_CURVES:
            with self.subTest(numbers=numbers):
                with self.assertRaises(NoCurve):
                    left(numbers, [])

    def test_no_curve_ahead_of_no_place(self):
        for numbers in NO_CURVES:
            for place in [(1, 0), (1, -1)]:
                with self.subTest(numbers=numbers, place=place):
                    with self.assertRaises(NoCurve):
                        sign_at(numbers, place)

    def test_no_curve_and_then_nought_ahead_of_no_place(self):
        for name, function in TAKES_A_PLACE.items():
            for place in NO_PLACES:
                with self.subTest(function=name, place=place):
                    for numbers in NO_CURVES:
                        with self.assertRaises(NoCurve):
                            function(numbers, place)
                    with self.assertRaises(Nought):
                        function([], place)

    def test_no_curve_and_then_nought_ahead_of_no_stretch(self):
        for name, function in TAKES_A_STRETCH.items():
            for low, high in NO_STRETCHES:
                with self.subTest(function=name, low=low, high=high):
                    for numbers in NO_CURVES:
                        with self.assertRaises(NoCurve):
                            function(numbers, low, high)
                    with self.assertRaises(Nought):
                        function([], low, high)

    def test_no_place_ahead_of_no_stretch(self):
        # Each pair would be no stretch, too, by its parts taken times one another or by its first numbers.
        pairs = [((5, 1), (1, 0)), ((5, 1), (-1, -1)), ((5, 0), (1, 1)), ((5, -2), (-1, 1)), ((0, 1), (1, -1)),
                 ((-5, -1), (4, 1)), ((1, 0), (0, 0)), ((-9, 1), (0, 0)), ((0, 0), (-9, 1))]
        for name, function in TAKES_A_STRETCH.items():
            for low, high in pairs:
                with self.subTest(function=name, low=low, high=high):
                    with self.assertRaises(NoPlace):
                        function([-2, 0, 1], low, high)

    def test_no_curve_and_then_nought_ahead_of_no_fine(self):
        for fine in NO_FINES:
            with self.subTest(fine=fine):
                for numbers in NO_CURVES:
                    with self.assertRaises(NoCurve):
                        stretches(numbers, fine)
                with self.assertRaises(Nought):
                    stretches([], fine)


class WhatIsHandedInStays(unittest.TestCase):
    ONE = [[], [6], [-6], [-4, 0, 6], [2, -4, 2], [-1, 0, 1], [0, 0, -3]]
    OTHER = ONE[1:]

    def keeps(self, function, *handed_in):
        before = copy.deepcopy(handed_in)
        answer = function(*handed_in)
        self.assertEqual(handed_in, before)
        self.not_the_same_list(answer, handed_in)

    def not_the_same_list(self, answer, handed_in):
        """A caller may go on and change the answer, so it is no list of theirs."""
        for value in handed_in:
            if isinstance(value, list):
                self.assertIsNot(answer, value)

    def test_functions_of_one_curve(self):
        for function in [slope, plain, shown]:
            for curve in self.ONE:
                with self.subTest(function=function.__name__, curve=curve):
                    self.keeps(function, list(curve))

    def test_sign_at(self):
        for curve in self.ONE:
            with self.subTest(curve=curve):
                self.keeps(sign_at, list(curve), (-3, 2))

    def test_functions_of_one_curve_that_is_not_nought(self):
        for function in [simple, chain, roots_in_all, reach, signs_over]:
            for curve in self.OTHER:
                with self.subTest(function=function.__name__, curve=curve):
                    self.keeps(function, list(curve))

    def test_functions_of_a_curve_and_more(self):
        for function, more in [(changes, [(1, 2)]), (roots_between, [(-3, 2), (1, 1)]), (stretches, [5]),
                               (roots_with_times, [(-3, 2), (1, 1)])]:
            for curve in self.OTHER:
                with self.subTest(function=function.__name__, curve=curve):
                    self.keeps(function, list(curve), *more)

    def test_no_link_of_a_chain_is_a_list_handed_in_or_another_link(self):
        for curve in [[7], [1], [-2, 0, 1], [0, 1], [1, 0, 1]]:
            handed_in = list(curve)
            lists = [handed_in] + chain(handed_in)
            for at, one in enumerate(lists):
                for other in lists[:at]:
                    self.assertIsNot(one, other)

    def test_functions_of_two_curves(self):
        for function in [times_curve, shared, left]:
            for curve in self.ONE:
                for other in self.OTHER if function is left else self.ONE:
                    with self.subTest(function=function.__name__, curve=curve, other=other):
                        self.keeps(function, list(curve), list(other))

    def test_one_list_handed_in_as_both(self):
        for function in [times_curve, shared, left]:
            curve = [-4, 0, 6]
            function(curve, curve)
            self.assertEqual(curve, [-4, 0, 6])

    def test_a_refusal_changes_nothing(self):
        for name, function in TAKES_A_CURVE.items():
            for numbers in NO_CURVES:
                with self.subTest(function=name, numbers=numbers):
                    handed_in = list(numbers)
                    with self.assertRaises(NoCurve):
                        function(handed_in)
                    self.assertEqual(handed_in, numbers)


if __name__ == "__main__":
    unittest.main()
