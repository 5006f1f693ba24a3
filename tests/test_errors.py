"""Promise [3]: the error classes."""

import unittest

from partedvalues import errors
from partedvalues.patterns import Pattern

NAMES = ("InvalidName", "InvalidPart", "InvalidTerm", "DoubleField", "InvalidRule", "InvalidAnswer",
         "UnknownPlace", "TakeEnded", "NothingToUndo", "Unreadable")


class ErrorsTest(unittest.TestCase):
    def test_base_derives_from_value_error(self):
        self.assertEqual(errors.TakeError.__bases__, (ValueError,))

    def test_others_derive_from_base_alone(self):
        for word in NAMES:
            self.assertEqual(getattr(errors, word).__bases__, (errors.TakeError,), word)

    def test_there_are_eleven_classes(self):
        found = [word for word in vars(errors) if isinstance(getattr(errors, word), type)]
        self.assertEqual(sorted(found), sorted(("TakeError",) + NAMES))

    def test_value_is_stored_itself(self):
        things = [None, 0, "", "a b", [1, [2]], {"a": []}, ("any",), Pattern(("any",), "soon", "absent"), object()]
        for word in ("TakeError",) + NAMES:
            for thing in things:
                error = getattr(errors, word)
                self.assertIs(error(thing).value, thing)
                self.assertIs(error(value=thing).value, thing)

    def test_each_can_be_raised_and_shown(self):
        for word in ("TakeError",) + NAMES:
            for thing in (None, [1], "text"):
                with self.assertRaises(ValueError) as caught:
                    raise getattr(errors, word)(value=thing)
                self.assertIs(caught.exception.value, thing)
                self.assertIsInstance(str(caught.exception), str)


if __name__ == "__main__":
    unittest.main()
