"""Tests of quotaboard.errors: the classes, and that boards and clashes raise what they can raise."""

import unittest

from quotaboard import errors
from quotaboard.boards import Board
from quotaboard.clashes import clashes, is_clash, witnesses

NAMES = (
    "RowsError", "TextError", "BoardError", "NumberError", "ClashError", "VotersError", "QuotasError",
    "SharesError", "VotesError", "NoneError", "NothingError", "LimitError",
)
CLASSES = [getattr(errors, name) for name in NAMES]


def made(kind):
    """Return an error of the class."""
    if kind is errors.LimitError:
        return kind(5000, 4096)
    return kind("a message")


class ErrorClasses(unittest.TestCase):
    def test_base_is_a_value_error(self):
        self.assertEqual(errors.QuotaError.__bases__, (ValueError,))

    def test_each_is_a_direct_subclass(self):
        for kind in CLASSES:
            with self.subTest(kind=kind):
                self.assertEqual(kind.__bases__, (errors.QuotaError,))
                self.assertEqual(kind.__module__, "quotaboard.errors")

    def test_each_is_caught_as_itself_and_as_its_bases(self):
        for kind in CLASSES:
            for caught in (kind, errors.QuotaError, ValueError):
                with self.subTest(kind=kind, caught=caught), self.assertRaises(caught):
                    raise made(kind)

    def test_none_is_another_one_of_the_list(self):
        for kind in CLASSES:
            for other in CLASSES:
                with self.subTest(kind=kind, other=other):
                    self.assertEqual(isinstance(made(kind), other), kind is other)

    def test_each_has_a_message(self):
        for kind in CLASSES:
            with self.subTest(kind=kind):
                self.assertNotEqual(str(made(kind)), "")

    def test_limit_error_has_both_fields(self):
        for amount, limit in ((4097, 4096), (729000000, 4096), (2, 1)):
            error = errors.LimitError(amount, limit)
            self.assertEqual((error.amount, error.limit), (amount, limit))
        error = errors.LimitError(limit=3, amount=8)
        self.assertEqual((error.amount, error.limit), (8, 3))


class RaisedErrors(unittest.TestCase):
    def test_each_call_raises_its_own_error_with_a_message(self):
        board = Board("000", "010", "100", "111")
        calls = (
            (errors.RowsError, lambda: Board()),
            (errors.RowsError, lambda: board + Board("0000")),
            (errors.TextError, lambda: Board.read("")),
            (errors.NumberError, lambda: board[4]),
            (errors.BoardError, lambda: board + "000"),
            (errors.VotersError, lambda: Board.majority(0)),
            (errors.BoardError, lambda: list(clashes("000"))),
            (errors.BoardError, lambda: is_clash("000", "110")),
            (errors.BoardError, lambda: witnesses("000", "110")),
            (errors.ClashError, lambda: witnesses(board, "111")),
        )
        for kind, call in calls:
            with self.subTest(kind=kind), self.assertRaises(errors.QuotaError) as caught:
                call()
            self.assertIs(type(caught.exception), kind)
            self.assertNotEqual(str(caught.exception), "")


if __name__ == "__main__":
    unittest.main()
