"""The classes of the refusals."""

import unittest

from cutback.errors import BadFuel, BadPiece, PieceError


class TheClasses(unittest.TestCase):
    def test_bases(self):
        self.assertEqual(PieceError.__bases__, (ValueError,))
        self.assertEqual(BadPiece.__bases__, (PieceError,))
        self.assertEqual(BadFuel.__bases__, (PieceError,))

    def test_neither_is_the_other(self):
        self.assertFalse(issubclass(BadPiece, BadFuel))
        self.assertFalse(issubclass(BadFuel, BadPiece))

    def test_where_they_are_defined(self):
        for error in (PieceError, BadPiece, BadFuel):
            self.assertEqual(error.__module__, "cutback.errors")


if __name__ == "__main__":
    unittest.main()
