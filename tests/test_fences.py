import unittest
from fractions import Fraction

import by_fractions
import by_roots

from zerofence.counting import roots_between, roots_in_all
from zerofence.curves import sign_at
from zerofence.fences import signs_over, stretches

MUCH = 10 ** 119
FINES = [1, 2, 3, 7, 1000]

# Curves whose roots are not those of parts of three numbers, and how many they have.
OTHERS = [
    ([-2, 0, 0, 1], 1), ([-1, -1, 0, 0, 0, 1], 1), ([1, -3, 0, 1], 3), ([-1, 0, 0, 0, 1], 2), ([1, 0, 0, 0, 1], 0),
    ([1, 0, -32, 0, 160, 0, -256, 0, 128], 8), ([-7, 0, 0, 0, 0, 0, 0, 0, 3], 2), ([5, 0, 0, 0, -31, 0, 0, 2], 3),
]


class Stretches(unittest.TestCase):
    def holds(self, curve, fine, count):
        """What point 15 asks of stretches, whatever the curve; the answer, for more to be asked of it."""
        answer = stretches(curve, fine)
        self.assertIsInstance(answer, list)
        self.assertEqual(len(answer), count)
        for stretch in answer:
            self.is_a_stretch(stretch)
            low, high = stretch
            self.assertLessEqual(Fraction(*high) - Fraction(*low), Fraction(1, fine))
            self.assertEqual(roots_between(curve, low, high), 1)
        for ahead, behind in zip(answer, answer[1:]):
            self.assertLessEqual(Fraction(*ahead[1]), Fraction(*behind[0]))
        return answer

    def is_a_stretch(self, stretch):
        self.assertIsInstance(stretch, tuple)
        self.assertEqual(len(stretch), 2)
        for place in stretch:
            self.assertIsInstance(place, tuple)
            self.assertEqual([number.__class__ for number in place], [int, int])
            self.assertGreaterEqual(place[1], 1)

    def fences_in(self, made, fine):
        answer = self.holds(made.curve, fine, len(made.roots))
        for root, stretch in zip(made.roots, answer):
            self.assertTrue(by_roots.is_in(root, *stretch))

    def test_of_the_square_less_two(self):
        for fine in FINES:
            self.fences_in(by_roots.Made([([-2, 0, 1], 1)]), fine)

    def test_with_no_root(self):
        for curve in [[1], [-7], [1, 0, 1], [-3, -1, -2], [1, 0, 2, 0, 1]]:
            for fine in FINES:
                self.assertEqual(stretches(curve, fine), [])

    def test_curves_made_of_known_roots(self):
        for made in by_roots.MADE + by_roots.some_made(50, 60):
            for fine in FINES:
                with self.subTest(curve=made.curve, fine=fine):
                    self.fences_in(made, fine)

    def test_other_curves(self):
        for curve, count in OTHERS:
            for turned in (curve, [-number for number in curve]):
                for fine in FINES:
                    with self.subTest(curve=turned, fine=fine):
                        self.holds(turned, fine, count)

    def test_every_curve_of_three_small_numbers(self):
        for curve in by_fractions.small_curves(3, 3)[1:]:
            made = by_roots.Made([(curve, 1)])
            for fine in (1, 4, 1000):
                with self.subTest(curve=curve, fine=fine):
                    self.fences_in(made, fine)

    def test_every_small_curve(self):
        for curve in by_fractions.small_curves(5, 1)[1:]:
            with self.subTest(curve=curve):
                self.holds(curve, 3, roots_in_all(curve))

    def test_roots_that_are_fractions_of_the_parts_themselves(self):
        for fine in FINES:
            parts = [([-number, fine], 1) for number in (-3, -2, 0, 1, 2, 5)]
            with self.subTest(fine=fine):
                self.fences_in(by_roots.Made(parts), fine)

    def test_roots_at_the_ends(self):
        parts = [([1000, 1], 1), ([-1000, 1], 1)]
        for more in ([], [([999, 1], 2), ([-999, 1], 1)], [([-2, 0, 1], 1)], [([-10 ** 6 + 1, 1000], 3)]):
            for fine in FINES:
                with self.subTest(more=more, fine=fine):
                    self.fences_in(by_roots.Made(parts + more), fine)

    def test_roots_close_to_one_another(self):
        for most in (10, 10 ** 6, 10 ** 14):
            made = by_roots.Made([([-(most + step), most], 1) for step in range(8)])
            for fine in FINES:
                with self.subTest(most=most, fine=fine):
                    self.fences_in(made, fine)

    def test_roots_closer_than_can_be_told_by_eye(self):
        for gap in (10 ** 20, 10 ** 59, MUCH // 3):
            made = by_roots.Made([([-1, 3], 1), ([-gap - 1, 3 * gap], 1), ([-2, 0, 1], 1)])
            for fine in (1, 1000):
                with self.subTest(gap=gap, fine=fine):
                    self.fences_in(made, fine)

    def test_two_roots_that_are_no_fractions_close_to_one_another(self):
        # Close to 1 / far this has two roots, and the more numbers the closer they are.
        far = 10 ** 59
        for length, count in [(4, 3), (5, 4), (9, 4)]:
            curve = [-2, 4 * far, -2 * far ** 2] + [0] * (length - 3)
            curve[-1] = curve[-1] + 1
            for fine in (1, 1000):
                with self.subTest(length=length, fine=fine):
                    self.holds(curve, fine, count)

    def test_roots_far_off_for_three_numbers_or_fewer(self):
        parts = [[-MUCH, 1], [MUCH, 1], [-10 * MUCH + 1, 7], [-MUCH, 0, 1], [1, 10 * MUCH - 1, 1],
                 [1, 10 * MUCH - 1, -1], [-1, MUCH], [-1, 0, MUCH], [MUCH, -10 * MUCH + 1, 3]]
        for part in parts:
            for fine in FINES:
                with self.subTest(part=part, fine=fine):
                    self.fences_in(by_roots.Made([(part, 1)]), fine)

    def test_parts_of_many_figures(self):
        for made in by_roots.MADE + [by_roots.Made([([1, MUCH, -3], 1)])]:
            for fine in (MUCH, 10 * MUCH - 1):
                with self.subTest(curve=made.curve):
                    self.fences_in(made, fine)

    def test_nine_numbers_of_many_figures(self):
        for curve in by_fractions.large_curves(51, 6, 9, 120):
            for fine in FINES:
                self.holds(curve, fine, roots_in_all(curve))

    def test_somewhat_more_than_nine_numbers(self):
        self.fences_in(by_roots.Made([([-number, 1], 1) for number in range(-1005, 1010, 200)]), 10)

    def test_a_root_told_more_than_once_has_one_stretch(self):
        for fine in FINES:
            self.holds([2, -4, 2], fine, 1)
            self.holds([0, 0, 0, -5], fine, 1)


class SignsOver(unittest.TestCase):
    def test_of_the_square_less_two(self):
        self.assertEqual(signs_over([-2, 0, 1]), [1, -1, 1])
        self.assertEqual(signs_over([2, 0, -1]), [-1, 1, -1])

    def test_with_no_root(self):
        self.assertEqual(signs_over([1, 0, 1]), [1])
        self.assertEqual(signs_over([-1, 0, -1]), [-1])
        self.assertEqual(signs_over([7]), [1])
        self.assertEqual(signs_over([-7]), [-1])

    def test_with_a_root_told_once_twice_and_three_times(self):
        self.assertEqual(signs_over([-1, 1]), [-1, 1])
        self.assertEqual(signs_over([2, -4, 2]), [1, 1])
        self.assertEqual(signs_over([-2, 4, -2]), [-1, -1])
        self.assertEqual(signs_over([0, 0, 0, 1]), [-1, 1])
        self.assertEqual(signs_over([0, 0, 0, -1]), [1, -1])
        made = by_roots.Made([([-1, 1], 1), ([-2, 1], 2), ([-3, 1], 3)])
        self.assertEqual(signs_over(made.curve), [1, -1, -1, 1])
        self.assertEqual(signs_over([-number for number in made.curve]), [-1, 1, 1, -1])

    def test_curves_made_of_known_roots(self):
        for made in by_roots.MADE + by_roots.some_made(52, 150):
            with self.subTest(curve=made.curve):
                self.assertEqual(signs_over(made.curve), made.signs())

    def test_roots_next_to_one_another(self):
        # The root of one stretch is its high place, and this is the low place of the next.
        made = by_roots.Made([([-number, 1], 1 + number % 2) for number in range(4)] + [([-7, 2], 1)])
        self.assertEqual(signs_over(made.curve), made.signs())

    def test_one_more_than_there_are_roots(self):
        for curve, count in OTHERS:
            with self.subTest(curve=curve):
                self.assertEqual(len(signs_over(curve)), count + 1)

    def test_other_curves(self):
        self.assertEqual(signs_over([-2, 0, 0, 1]), [-1, 1])
        self.assertEqual(signs_over([-1, 0, 0, 0, 1]), [1, -1, 1])
        self.assertEqual(signs_over([1, 0, -32, 0, 160, 0, -256, 0, 128]), [1, -1] * 4 + [1])

    def test_of_many_figures(self):
        for curve in by_fractions.large_curves(53, 6, 9, 120):
            signs = signs_over(curve)
            self.assertEqual(len(signs), roots_in_all(curve) + 1)
            self.assertEqual(signs[0], sign_at(curve, (-MUCH, 1)))
            self.assertEqual(signs[-1], sign_at(curve, (MUCH, 1)))
            # No root of such a curve is one twice, as it shares nothing with its slope.
            self.assertTrue(all(one == -other for one, other in zip(signs, signs[1:])))

    def test_roots_far_off(self):
        self.assertEqual(signs_over([-MUCH, 1]), [-1, 1])
        self.assertEqual(signs_over([MUCH ** 2, 2 * MUCH, 1]), [1, 1])
        self.assertEqual(signs_over([1, 10 * MUCH - 1, -1]), [-1, 1, -1])


if __name__ == "__main__":
    unittest.main()
