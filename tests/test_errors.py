"""The interface of needleroll/errors.py."""

import unittest

from needleroll.errors import NoAngle, NoStrip, NothingLeft, NotWound, NoWinding, RollError

REFUSALS = (NoStrip, NoWinding, NoAngle, NotWound, NothingLeft)


class Errors(unittest.TestCase):
    def test_any_refusal_is_a_value_error(self):
        self.assertEqual(RollError.__bases__, (ValueError,))

    def test_each_refusal_stands_straight_under_roll_error(self):
        for refusal in REFUSALS:
            self.assertEqual(refusal.__bases__, (RollError,), refusal)

    def test_no_refusal_stands_under_another_one(self):
        self.assertEqual(len(set(REFUSALS)), 5)
        for refusal in REFUSALS:
            for other in REFUSALS:
                self.assertEqual(issubclass(refusal, other), refusal is other)

    def test_names(self):
        names = [refusal.__name__ for refusal in (RollError,) + REFUSALS]
        self.assertEqual(names, ["RollError", "NoStrip", "NoWinding", "NoAngle", "NotWound", "NothingLeft"])

    def test_each_is_made_of_a_text_and_caught_as_any_refusal(self):
        for refusal in (RollError,) + REFUSALS:
            with self.assertRaises(RollError) as caught:
                raise refusal("a text")
            self.assertEqual(str(caught.exception), "a text")


if __name__ == "__main__":
    unittest.main()
