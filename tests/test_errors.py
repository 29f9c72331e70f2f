"""Tests of quotaboard.errors: the classes, and that each module raises what it can raise, with a message."""

import unittest

from quotaboard import errors
from quotaboard.boards import Board
from quotaboard.clashes import clashes, is_clash, witnesses
from quotaboard.meetings import Meeting
from quotaboard.premises import premises, settled
from quotaboard.quotas import all_quotas, by_shares, first_failure, holds, is_failure, nearest, strain, verdict
from quotaboard.rules import Default, PremiseRule, Rule, Veto, VetoDefault

NAMES = (
    "RowsError", "TextError", "BoardError", "NumberError", "ClashError", "VotersError", "QuotasError",
    "SharesError", "VotesError", "NoneError", "NothingError", "LimitError",
)
CLASSES = [getattr(errors, name) for name in NAMES]


def made(kind):
    """Return an error of the class."""
    if kind is errors.LimitError:
        return kind(5000, 4096)
    return kind("a message")


class ErrorClasses(unittest.TestCase):
    def test_base_is_a_value_error(self):
        self.assertEqual(errors.QuotaError.__bases__, (ValueError,))

    def test_each_is_a_direct_subclass(self):
        for kind in CLASSES:
            with self.subTest(kind=kind):
                self.assertEqual(kind.__bases__, (errors.QuotaError,))
                self.assertEqual(kind.__module__, "quotaboard.errors")

    def test_each_is_caught_as_itself_and_as_its_bases(self):
        for kind in CLASSES:
            for caught in (kind, errors.QuotaError, ValueError):
                with self.subTest(kind=kind, caught=caught), self.assertRaises(caught):
                    raise made(kind)

    def test_none_is_another_one_of_the_list(self):
        for kind in CLASSES:
            for other in CLASSES:
                with self.subTest(kind=kind, other=other):
                    self.assertEqual(isinstance(made(kind), other), kind is other)

    def test_each_has_a_message(self):
        for kind in CLASSES:
            with self.subTest(kind=kind):
                self.assertNotEqual(str(made(kind)), "")

    def test_limit_error_has_both_fields(self):
        for amount, limit in ((4097, 4096), (729000000, 4096), (2, 1)):
            error = errors.LimitError(amount, limit)
            self.assertEqual((error.amount, error.limit), (amount, limit))
        error = errors.LimitError(limit=3, amount=8)
        self.assertEqual((error.amount, error.limit), (8, 3))


class RaisedErrors(unittest.TestCase):
    def test_each_call_raises_its_own_error_with_a_message(self):
        board, bare, large = Board("000", "010", "100", "111"), Board("00", "01", "10"), Board("000000")
        meeting = Meeting(board, 3, (2, 2, 2))
        calls = (
            (errors.RowsError, lambda: Board()),
            (errors.RowsError, lambda: board + Board("0000")),
            (errors.TextError, lambda: Board.read("")),
            (errors.NumberError, lambda: board[4]),
            (errors.BoardError, lambda: board + "000"),
            (errors.VotersError, lambda: Board.majority(0)),
            (errors.BoardError, lambda: list(clashes("000"))),
            (errors.BoardError, lambda: is_clash("000", "110")),
            (errors.BoardError, lambda: witnesses("000", "110")),
            (errors.ClashError, lambda: witnesses(board, "111")),
            (errors.ClashError, lambda: strain(board, 3, (2, 2, 2), "111")),
            (errors.BoardError, lambda: holds("000", 3, (2, 2, 2))),
            (errors.VotersError, lambda: verdict(board, 31, (2, 2, 2))),
            (errors.QuotasError, lambda: is_failure(board, 3, [2, 2, 2], ())),
            (errors.LimitError, lambda: list(all_quotas(large, 5))),
            (errors.LimitError, lambda: nearest(large, 5, (1,) * 6)),
            (errors.SharesError, lambda: by_shares(board, 3, ((1, 1),) * 3)),
            (errors.VotersError, lambda: first_failure(board, ((1, 2),) * 3, 31)),
            (errors.BoardError, lambda: premises("000")),
            (errors.NoneError, lambda: settled(bare, "00")),
            (errors.RowsError, lambda: settled(board, "000")),
            (errors.VotesError, lambda: Rule(board, 3, (2, 2, 2))(("000", "111"))),
            (errors.NumberError, lambda: Veto(board, 3, (2, 2, 2), 4)),
            (errors.RowsError, lambda: Default(board, 3, (2, 2, 2), "110")),
            (errors.RowsError, lambda: VetoDefault(board, 3, (2, 2, 2), 1, "110")),
            (errors.NoneError, lambda: PremiseRule(bare, 3, (2, 2))),
            (errors.NumberError, lambda: meeting.vote(4, "000")),
            (errors.RowsError, lambda: meeting.vote(1, "110")),
            (errors.NumberError, lambda: meeting.withdraw(1)),
            (errors.QuotasError, lambda: meeting.assign_quotas((2, 2, 4))),
            (errors.NothingError, lambda: meeting.undo()),
            (errors.NumberError, lambda: meeting.absent(1, 1)),
            (errors.NumberError, lambda: meeting.result_without(4)),
        )
        for kind, call in calls:
            with self.subTest(kind=kind), self.assertRaises(errors.QuotaError) as caught:
                call()
            self.assertIs(type(caught.exception), kind)
            self.assertNotEqual(str(caught.exception), "")


if __name__ == "__main__":
    unittest.main()
