import unittest

from trailbook.errors import NoDesk, NoLine, NoTrail, NoWork, TrailError

REFUSALS = [NoDesk, NoWork, NoTrail, NoLine]


class Refusals(unittest.TestCase):
    def test_trail_error_is_a_value_error(self):
        self.assertEqual(TrailError.__bases__, (ValueError,))

    def test_each_refusal_stands_straight_under_trail_error(self):
        for refusal in REFUSALS:
            with self.subTest(refusal=refusal.__name__):
                self.assertEqual(refusal.__bases__, (TrailError,))

    def test_each_refusal_is_a_class_of_its_own(self):
        for refusal in REFUSALS:
            for other in REFUSALS:
                with self.subTest(refusal=refusal.__name__, other=other.__name__):
                    self.assertEqual(issubclass(refusal, other), refusal is other)

    def test_a_refusal_is_taken_by_its_name_and_as_those_above(self):
        for refusal in REFUSALS:
            for taken in (refusal, TrailError, ValueError):
                with self.subTest(refusal=refusal.__name__, taken=taken.__name__):
                    with self.assertRaises(taken):
                        raise refusal("refused")


if __name__ == "__main__":
    unittest.main()
