import unittest

import by_fractions

from zerofence.chains import chain, changes
from zerofence.curves import plain, sign_at, slope, times_curve
from zerofence.dividing import left, simple
from zerofence.errors import Nought

PLACES = [(0, 1), (0, 5), (1, 1), (-1, 1), (3, 1), (-4, 1), (1, 2), (-1, 2), (-6, 4), (5, 3), (-7, 5), (900, 7)]
MUCH = 10 ** 119


class TheChain(unittest.TestCase):
    def test_of_the_documents_curves(self):
        self.assertEqual(chain([-2, 0, 1]), [[-2, 0, 1], [0, 1], [1]])
        self.assertEqual(chain([7]), [[1]])

    def test_of_one_number_below_nought(self):
        self.assertEqual(chain([-7]), [[-1]])

    def test_of_two_numbers(self):
        self.assertEqual(chain([6, 4]), [[3, 2], [1]])
        self.assertEqual(chain([6, -4]), [[3, -2], [-1]])

    def test_with_no_root(self):
        self.assertEqual(chain([2, 0, 1]), [[2, 0, 1], [0, 1], [-1]])

    def test_with_a_last_number_below_nought(self):
        self.assertEqual(chain([2, 0, -1]), [[2, 0, -1], [0, -1], [-1]])
        self.assertEqual(chain([0, 3, 0, -1]), [[0, 3, 0, -1], [1, 0, -1], [0, -1], [-1]])

    def test_with_roots_told_more_than_once(self):
        self.assertEqual(chain([2, -4, 2]), [[-1, 1], [1]])
        self.assertEqual(chain([0, 0, 0, -5]), [[0, -1], [-1]])
        self.assertEqual(chain([4, 0, -4, 0, 1]), [[-2, 0, 1], [0, 1], [1]])

    def test_the_slope_in_it_is_plain(self):
        self.assertEqual(chain([5, 0, 0, 1])[1], [0, 0, 1])
        self.assertEqual(chain([1, 4, 2])[1], [1, 1])

    def test_numbers_are_left_out_where_a_step_takes_off_more_than_one(self):
        self.assertEqual(chain([-1, 0, 0, 0, 1]), [[-1, 0, 0, 0, 1], [0, 0, 0, 1], [1]])
        self.assertEqual(chain([1, 0, 0, 0, 1]), [[1, 0, 0, 0, 1], [0, 0, 0, 1], [-1]])

    def test_of_every_small_curve(self):
        for curve in by_fractions.small_curves(5, 1)[1:] + by_fractions.small_curves(4, 2)[1:]:
            with self.subTest(curve=curve):
                self.assertEqual(chain(curve), by_fractions.chain(curve))

    def test_of_many_figures(self):
        for length in (2, 3, 5, 9):
            for curve in by_fractions.large_curves(20 + length, 3, length, 120):
                self.assertEqual(chain(curve), by_fractions.chain(curve))
                self.assertEqual(len(chain(curve)), length)

    def test_of_many_figures_with_roots_told_more_than_once(self):
        for part in by_fractions.large_curves(31, 4, 3, 38):
            for rest in ([-3, 1], [-1, 0, -2]):
                curve = times_curve(times_curve(times_curve(part, part), part), rest)
                self.assertEqual(chain(curve), by_fractions.chain(curve))
                self.assertEqual(chain(curve)[0], simple(times_curve(part, rest)))

    def test_each_link_follows_from_those_ahead(self):
        for curve in by_fractions.large_curves(32, 3, 9, 50):
            links = chain(curve)
            self.assertEqual(links[0], simple(curve))
            self.assertEqual(links[1], plain(slope(links[0])))
            for first, second, third in zip(links, links[1:], links[2:]):
                self.assertEqual(third, [-number for number in left(first, second)])
            self.assertEqual(left(links[-2], links[-1]), [])

    def test_of_nought(self):
        with self.assertRaises(Nought):
            chain([])


class TheChanges(unittest.TestCase):
    def test_of_the_square_less_two(self):
        curve = [-2, 0, 1]
        for place, asked in [((-2, 1), 2), ((-3, 2), 2), ((-7, 5), 1), ((7, 5), 1), ((3, 2), 0), ((2, 1), 0)]:
            with self.subTest(place=place):
                self.assertEqual(changes(curve, place), asked)

    def test_where_a_curve_in_the_middle_is_nought(self):
        self.assertEqual(changes([-2, 0, 1], (0, 1)), 1)
        self.assertEqual(changes([2, 0, 1], (0, 1)), 1)
        self.assertEqual(changes([-1, 0, 0, 0, 1], (0, 3)), 1)

    def test_where_the_first_curve_is_nought(self):
        self.assertEqual(changes([-1, 0, 1], (1, 1)), 0)
        self.assertEqual(changes([-1, 0, 1], (-1, 1)), 1)
        self.assertEqual(changes([3, 2], (-3, 2)), 0)

    def test_where_two_curves_are_nought(self):
        # The signs there: 0, -1, 0, 1.
        self.assertEqual(chain([0, -3, 0, 1]), [[0, -3, 0, 1], [-1, 0, 1], [0, 1], [1]])
        self.assertEqual(changes([0, -3, 0, 1], (0, 1)), 1)

    def test_of_one_number(self):
        for place in PLACES:
            self.assertEqual(changes([7], place), 0)
            self.assertEqual(changes([-7], place), 0)

    def test_the_same_place_written_otherwise(self):
        for curve in by_fractions.small_curves(4, 1)[1:]:
            with self.subTest(curve=curve):
                self.assertEqual(changes(curve, (-3, 2)), changes(curve, (-60, 40)))

    def test_of_every_small_curve(self):
        met = 0
        for curve in by_fractions.small_curves(4, 2)[1:]:
            for place in PLACES:
                with self.subTest(curve=curve, place=place):
                    self.assertEqual(changes(curve, place), by_fractions.changes(curve, place))
                met = met + any(sign_at(link, place) == 0 for link in chain(curve))
        self.assertGreater(met, 500)

    def test_of_many_figures(self):
        places = [(-MUCH, 1), (MUCH - 1, MUCH), (-7, MUCH), (1, 3), (-1, 1), (10 * MUCH - 1, 3)]
        for curve in by_fractions.large_curves(33, 3, 9, 120):
            for place in places:
                self.assertEqual(changes(curve, place), by_fractions.changes(curve, place))

    def test_of_nought(self):
        with self.assertRaises(Nought):
            changes([], (1, 2))


if __name__ == "__main__":
    unittest.main()
