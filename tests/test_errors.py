"""Point 8: the errors."""

import unittest

from rankswithin.errors import BadValue, NotPossible, RankError, TextError, TooLarge

BELOW = (BadValue, TooLarge, NotPossible, TextError)


class Errors(unittest.TestCase):
    def test_point_8_rank_error_is_a_value_error(self):
        self.assertEqual(RankError.__bases__, (ValueError,))

    def test_point_8_all_others_are_rank_errors(self):
        for kind in BELOW:
            self.assertTrue(issubclass(kind, RankError))

    def test_point_8_none_below_is_a_subclass_of_another_one(self):
        for one in BELOW:
            for other in BELOW:
                self.assertEqual(issubclass(one, other), one == other)

    def test_attributes(self):
        self.assertEqual(BadValue("problem").name, "problem")
        self.assertEqual(TooLarge("constraints").what, "constraints")
        self.assertEqual(NotPossible("cyclic").why, "cyclic")
        error = TextError(8, "a window ascends")
        self.assertEqual((error.column, error.words), (8, "a window ascends"))

    def test_attributes_are_those_of_the_object(self):
        first, second = BadValue("problem"), BadValue("item")
        self.assertEqual((first.name, second.name), ("problem", "item"))

    def test_errors_can_be_raised_and_shown(self):
        for error in (BadValue("item"), TooLarge("commands"), NotPossible("good"), TextError(1, "a word")):
            with self.assertRaises(RankError):
                raise error
            self.assertIsInstance(str(error), str)


if __name__ == "__main__":
    unittest.main()
