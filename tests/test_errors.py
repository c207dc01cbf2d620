"""Point 7 and oddscall/errors.py."""

import unittest

from oddscall.errors import BadGraph, BadValue, NotTold, OddsError, TextError, TooLarge

BELOW = (BadValue, BadGraph, NotTold, TooLarge, TextError)


class ErrorsTest(unittest.TestCase):
    def test_the_base_class_is_a_value_error(self):
        self.assertTrue(issubclass(OddsError, ValueError))
        self.assertIsNot(OddsError, ValueError)

    def test_all_others_are_below_the_base_class(self):
        for one in BELOW:
            self.assertTrue(issubclass(one, OddsError), one)
            self.assertFalse(issubclass(OddsError, one), one)

    def test_none_of_them_is_below_another_one(self):
        for one in BELOW:
            for other in BELOW:
                if one is not other:
                    self.assertFalse(issubclass(one, other), (one, other))

    def test_attributes_are_as_they_were_given(self):
        self.assertEqual(BadValue("graph").name, "graph")
        error = BadGraph((1, 2), "form")
        self.assertEqual((error.where, error.why), ((1, 2), "form"))
        self.assertEqual(BadGraph((), "many").where, ())
        self.assertEqual(NotTold(("part", 3)).reason, ("part", 3))
        self.assertEqual(TooLarge("field").what, "field")
        error = TextError(2, 13, "no token begins here")
        self.assertEqual((error.line, error.column, error.words), (2, 13, "no token begins here"))

    def test_errors_can_be_raised_and_caught_by_the_base_class(self):
        for error in (BadValue("a"), BadGraph((0,), "exits"), NotTold(("choices",)), TooLarge("moves"),
                      TextError(1, 1, "words")):
            with self.assertRaises(OddsError) as caught:
                raise error
            self.assertIs(caught.exception, error)
            with self.assertRaises(ValueError):
                raise error

    def test_attributes_of_different_objects_do_not_mix(self):
        first, second = BadValue("a"), BadValue("b")
        self.assertEqual((first.name, second.name), ("a", "b"))


if __name__ == "__main__":
    unittest.main()
