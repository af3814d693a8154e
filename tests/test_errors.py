"""Point 5: the errors."""

import unittest

from allworlds import errors
from tests.drawn import NO_TUPLES

ONE_AT = ("InvalidNet", "InvalidNews", "InvalidClaim", "InvalidTable", "InvalidTree", "InvalidPaper")
ONE_WORD = ("InvalidNumber", "Refused")


class TestErrors(unittest.TestCase):
    def test_bases(self):
        self.assertEqual(errors.NetError.__bases__, (ValueError,))
        for name in ONE_AT + ONE_WORD + ("InvalidText",):
            self.assertEqual(getattr(errors, name).__bases__, (errors.NetError,))

    def test_attributes(self):
        for name in ONE_AT:
            self.assertEqual(vars(getattr(errors, name)(3)), {"at": 3})
            self.assertEqual(vars(getattr(errors, name)(at="x")), {"at": "x"})
        for name in ONE_WORD:
            self.assertEqual(vars(getattr(errors, name)("size")), {"word": "size"})
            self.assertEqual(vars(getattr(errors, name)(word=None)), {"word": None})
        self.assertEqual(vars(errors.InvalidText(1, 2)), {"line": 1, "at": 2})
        self.assertEqual(vars(errors.InvalidText(at=1, line=2)), {"line": 2, "at": 1})

    def test_any_values(self):
        for value in NO_TUPLES:
            for name in ONE_AT:
                self.assertIs(getattr(errors, name)(value).at, value)
            for name in ONE_WORD:
                self.assertIs(getattr(errors, name)(value).word, value)
            error = errors.InvalidText(value, value)
            self.assertIs(error.line, value)
            self.assertIs(error.at, value)

    def test_wrong_number_of_arguments(self):
        for name in ONE_AT + ONE_WORD:
            with self.assertRaises(TypeError):
                getattr(errors, name)()
            with self.assertRaises(TypeError):
                getattr(errors, name)(1, 2)
        with self.assertRaises(TypeError):
            errors.InvalidText(1)

    def test_raised_and_caught(self):
        with self.assertRaises(errors.NetError):
            raise errors.Refused("size")
        with self.assertRaises(ValueError):
            raise errors.InvalidText(0, 0)


if __name__ == "__main__":
    unittest.main()
