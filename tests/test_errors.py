import unittest

from rowlay.errors import BadKind, BadOrder, BadSpot, BadText, BadWeb, LayError


class Errors(unittest.TestCase):
    def test_any_refusal_is_a_value_error(self):
        self.assertEqual(LayError.__bases__, (ValueError,))

    def test_each_refusal_stands_straight_below_lay_error(self):
        for refusal in (BadWeb, BadOrder, BadSpot, BadKind, BadText):
            self.assertEqual(refusal.__bases__, (LayError,))
            with self.assertRaises(LayError):
                raise refusal("why")

    def test_the_refusals_are_five(self):
        self.assertEqual(len({BadWeb, BadOrder, BadSpot, BadKind, BadText}), 5)


if __name__ == "__main__":
    unittest.main()
