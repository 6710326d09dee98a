"""Point 8 and the interface of undobystate/errors.py."""

import unittest

from undobystate.errors import BadValue, NotPossible, TextError, TooLarge, UndoError

BELOW = (BadValue, TooLarge, NotPossible, TextError)


class ErrorsTest(unittest.TestCase):

    def test_all_are_undo_errors_and_value_errors(self):
        self.assertTrue(issubclass(UndoError, ValueError))
        for kind in BELOW:
            with self.subTest(kind=kind):
                self.assertTrue(issubclass(kind, UndoError))

    def test_none_below_is_a_subclass_of_another_one(self):
        for one in BELOW:
            for other in BELOW:
                with self.subTest(one=one, other=other):
                    self.assertEqual(issubclass(one, other), one is other)

    def test_the_base_class_is_none_of_those_below(self):
        for kind in BELOW:
            with self.subTest(kind=kind):
                self.assertFalse(issubclass(UndoError, kind))

    def test_attributes(self):
        self.assertEqual(BadValue("system").name, "system")
        self.assertEqual(TooLarge("effects").what, "effects")
        self.assertEqual(NotPossible("merge").why, "merge")
        error = TextError(15, "a state is missing")
        self.assertEqual((error.column, error.words), (15, "a state is missing"))

    def test_attributes_by_keywords(self):
        self.assertEqual(BadValue(name="state").name, "state")
        self.assertEqual(TooLarge(what="operations").what, "operations")
        self.assertEqual(NotPossible(why="full").why, "full")
        error = TextError(words="no token begins here", column=1)
        self.assertEqual((error.column, error.words), (1, "no token begins here"))

    def test_each_object_has_its_own_attributes(self):
        one, other = BadValue("system"), BadValue("state")
        self.assertEqual((one.name, other.name), ("system", "state"))

    def test_raised_they_are_caught_by_each_of_their_classes(self):
        errors = [BadValue("a"), TooLarge("b"), NotPossible("c"), TextError(1, "d"), UndoError("e")]
        for error in errors:
            for kind in (type(error), UndoError, ValueError):
                with self.subTest(error=error, kind=kind):
                    with self.assertRaises(kind) as caught:
                        raise error
                    self.assertIs(caught.exception, error)


if __name__ == "__main__":
    unittest.main()
