import copy
import unittest

from zerofence.curves import plain, sign_at, slope, times_curve
from zerofence.dividing import left, shared, simple
from zerofence.errors import NoCurve, NoPlace, Nought

NO_CURVES = [[0], [0, 0], [1, 0], [-2, 3, 0], [10 ** 119, 0], [0, 1, 0, 0]]
CURVES = [[1], [-2, 0, 1], [3, -1], [0, 0, 5]]

# Each function that takes a curve, by the place in which it takes it.
TAKES_A_CURVE = {
    "sign_at": lambda curve: sign_at(curve, (1, 2)),
    "slope": slope,
    "plain": plain,
    "times_curve, as curve": lambda curve: times_curve(curve, [1, 1]),
    "times_curve, as other": lambda curve: times_curve([1, 1], curve),
    "times_curve, as curve, by nought": lambda curve: times_curve(curve, []),
    "times_curve, as other, by nought": lambda curve: times_curve([], curve),
    "left, as curve": lambda curve: left(curve, [1, 1]),
    "left, as other": lambda curve: left([1, 1], curve),
    "left, as other, of nought": lambda curve: left([], curve),
    "shared, as curve": lambda curve: shared(curve, [1, 1]),
    "shared, as other": lambda curve: shared([1, 1], curve),
    "shared, as curve, with nought": lambda curve: shared(curve, []),
    "shared, as other, with nought": lambda curve: shared([], curve),
    "simple": simple,
}


class NoCurveIsRefused(unittest.TestCase):
    def test_a_last_number_of_nought(self):
        for name, function in TAKES_A_CURVE.items():
            for numbers in NO_CURVES:
                with self.subTest(function=name, numbers=numbers):
                    with self.assertRaises(NoCurve):
                        function(list(numbers))

    def test_a_curve_is_not_refused(self):
        for name, function in TAKES_A_CURVE.items():
            for numbers in CURVES:
                with self.subTest(function=name, numbers=numbers):
                    function(list(numbers))

    def test_the_empty_list_is_nought(self):
        self.assertEqual(sign_at([], (1, 2)), 0)
        self.assertEqual(slope([]), [])
        self.assertEqual(plain([]), [])
        self.assertEqual(times_curve([], [1, 1]), [])
        self.assertEqual(times_curve([1, 1], []), [])
        self.assertEqual(left([], [1, 1]), [])
        self.assertEqual(shared([], [1, 1]), [1, 1])
        self.assertEqual(shared([1, 1], []), [1, 1])


class NoPlaceIsRefused(unittest.TestCase):
    def test_parts_of_less_than_one(self):
        for curve in [[], [7], [-2, 0, 1]]:
            for place in [(1, 0), (0, 0), (3, -1), (-3, -2), (1, -(10 ** 119))]:
                with self.subTest(curve=curve, place=place):
                    with self.assertRaises(NoPlace):
                        sign_at(curve, place)

    def test_one_part_is_a_place(self):
        self.assertEqual(sign_at([-2, 0, 1], (2, 1)), 1)


class NoughtIsRefused(unittest.TestCase):
    def test_left_by_nought(self):
        for curve in [[], [3], [1, 0, 1]]:
            with self.subTest(curve=curve):
                with self.assertRaises(Nought):
                    left(curve, [])

    def test_simple_of_nought(self):
        with self.assertRaises(Nought):
            simple([])


class TheOrderOfRefusals(unittest.TestCase):
    def test_no_curve_ahead_of_nought(self):
        for numbers in NO_CURVES:
            with self.subTest(numbers=numbers):
                with self.assertRaises(NoCurve):
                    left(numbers, [])

    def test_no_curve_ahead_of_no_place(self):
        for numbers in NO_CURVES:
            for place in [(1, 0), (1, -1)]:
                with self.subTest(numbers=numbers, place=place):
                    with self.assertRaises(NoCurve):
                        sign_at(numbers, place)


class WhatIsHandedInStays(unittest.TestCase):
    ONE = [[], [6], [-6], [-4, 0, 6], [2, -4, 2], [-1, 0, 1], [0, 0, -3]]
    OTHER = ONE[1:]

    def keeps(self, function, *handed_in):
        before = copy.deepcopy(handed_in)
        answer = function(*handed_in)
        self.assertEqual(handed_in, before)
        self.not_the_same_list(answer, handed_in)

    def not_the_same_list(self, answer, handed_in):
        """A caller may go on and change the answer, so it is no list of theirs."""
        for value in handed_in:
            if isinstance(value, list):
                self.assertIsNot(answer, value)

    def test_functions_of_one_curve(self):
        for function in [slope, plain]:
            for curve in self.ONE:
                with self.subTest(function=function.__name__, curve=curve):
                    self.keeps(function, list(curve))

    def test_sign_at(self):
        for curve in self.ONE:
            with self.subTest(curve=curve):
                self.keeps(sign_at, list(curve), (-3, 2))

    def test_simple(self):
        for curve in self.OTHER:
            with self.subTest(curve=curve):
                self.keeps(simple, list(curve))

    def test_functions_of_two_curves(self):
        for function in [times_curve, shared, left]:
            for curve in self.ONE:
                for other in self.OTHER if function is left else self.ONE:
                    with self.subTest(function=function.__name__, curve=curve, other=other):
                        self.keeps(function, list(curve), list(other))

    def test_one_list_handed_in_as_both(self):
        for function in [times_curve, shared, left]:
            curve = [-4, 0, 6]
            function(curve, curve)
            self.assertEqual(curve, [-4, 0, 6])

    def test_a_refusal_changes_nothing(self):
        for name, function in TAKES_A_CURVE.items():
            for numbers in NO_CURVES:
                with self.subTest(function=name, numbers=numbers):
                    handed_in = list(numbers)
                    with self.assertRaises(NoCurve):
                        function(handed_in)
                    self.assertEqual(handed_in, numbers)


if __name__ == "__main__":
    unittest.main()
