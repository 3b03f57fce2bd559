"""The refusals, as the interface lists them."""

import unittest

from pausewright.errors import BadAsk, BadText, BadWork, PauseError


class Errors(unittest.TestCase):
    def test_any_refusal_is_a_value_error(self):
        self.assertEqual(PauseError.__bases__, (ValueError,))

    def test_each_is_straight_under_the_first(self):
        for kind in (BadWork, BadAsk, BadText):
            self.assertEqual(kind.__bases__, (PauseError,))

    def test_none_is_another_one(self):
        made = {BadWork: BadWork(1), BadAsk: BadAsk("so"), BadText: BadText(2)}
        for kind, error in made.items():
            self.assertIsInstance(error, PauseError)
            self.assertIsInstance(error, ValueError)
            for other in made:
                self.assertEqual(isinstance(error, other), kind is other)
            self.assertNotIsInstance(PauseError("so"), kind)

    def test_values_are_set_when_the_object_is_created(self):
        self.assertEqual(vars(BadWork(3))["work"], 3)
        self.assertEqual(vars(BadText(200))["row"], 200)
        self.assertFalse(hasattr(BadAsk("so"), "work"))
        self.assertFalse(hasattr(BadText(1), "work"))
        self.assertFalse(hasattr(BadWork(1), "row"))

    def test_two_objects_have_values_of_their_own(self):
        one, other = BadWork(1), BadWork(2)
        self.assertEqual((one.work, other.work), (1, 2))


if __name__ == "__main__":
    unittest.main()
