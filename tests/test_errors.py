"""The interface, nearturns/errors.py."""

import unittest

from nearturns.errors import BadNote, NoName, NoPlaces, NoTie, TooMany, TurnError

FIVE = (TooMany, NoTie, NoPlaces, NoName, BadNote)


class Errors(unittest.TestCase):
    def test_turn_error_is_straight_under_value_error(self):
        self.assertEqual(TurnError.__bases__, (ValueError,))
        self.assertEqual(TurnError.__name__, "TurnError")

    def test_each_of_the_five_is_straight_under_turn_error(self):
        for kind in FIVE:
            self.assertEqual(kind.__bases__, (TurnError,), kind)

    def test_none_of_the_five_is_under_another(self):
        for kind in FIVE:
            for other in FIVE:
                self.assertEqual(issubclass(kind, other), kind is other, (kind, other))

    def test_the_names(self):
        names = [kind.__name__ for kind in FIVE]
        self.assertEqual(names, ["TooMany", "NoTie", "NoPlaces", "NoName", "BadNote"])

    def test_each_is_made_with_a_text_and_raised(self):
        for kind in FIVE + (TurnError,):
            error = kind("a text")
            self.assertIs(type(error), kind)
            for caught in (kind, TurnError, ValueError):
                with self.assertRaises(caught):
                    raise kind("a text")


if __name__ == "__main__":
    unittest.main()
