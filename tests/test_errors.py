import unittest

from zerofence.errors import FenceError, NoCurve, NoFine, NoLine, NoPlace, NoStretch, Nought

REFUSALS = [NoCurve, Nought, NoPlace, NoStretch, NoFine, NoLine]


class TheErrorClasses(unittest.TestCase):
    def test_fence_error_is_a_value_error(self):
        self.assertEqual(FenceError.__bases__, (ValueError,))

    def test_each_refusal_is_a_fence_error_and_a_value_error(self):
        for refusal in REFUSALS:
            with self.subTest(refusal=refusal.__name__):
                self.assertTrue(issubclass(refusal, FenceError))
                self.assertTrue(issubclass(refusal, ValueError))

    def test_no_refusal_is_another_one(self):
        for one in REFUSALS:
            for other in REFUSALS:
                with self.subTest(one=one.__name__, other=other.__name__):
                    self.assertEqual(issubclass(one, other), one is other)

    def test_a_refusal_can_be_raised_and_taken_as_a_value_error(self):
        for refusal in REFUSALS + [FenceError]:
            with self.subTest(refusal=refusal.__name__):
                with self.assertRaises(ValueError):
                    raise refusal("words")


if __name__ == "__main__":
    unittest.main()
