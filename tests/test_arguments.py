"""Tests that arguments are checked from left to right: point 3 and the second paragraph of the interface."""

import unittest
from random import Random

from quotaboard.boards import Board
from quotaboard.clashes import clashes, is_clash, witnesses
from quotaboard.errors import (
    BoardError, ClashError, LimitError, NoneError, NumberError, QuotasError, RowsError, SharesError, VotersError,
)
from quotaboard.meetings import Meeting
from quotaboard.premises import premises, settled
from quotaboard.quotas import all_quotas, by_shares, first_failure, holds, is_failure, nearest, strain, verdict
from quotaboard.rules import Default, PremiseRule, Rule, Veto, VetoDefault
from tests.samples import EXAMPLE, no_boards, no_texts, outside, wrong_quotas, wrong_shares

SHARES = ((1, 2), (2, 3), (0, 1))
NO_ROWS = [value for value in no_texts() if value is not None] + ["", "110", "00", "-00"]

BOARD = (Board(*EXAMPLE), no_boards(), BoardError)
VOTERS = (3, outside(1, 30), VotersError)
QUOTAS = ((2, 3, 1), wrong_quotas((2, 3, 1), 3), QuotasError)
CLASH = ("110", no_texts() + ["", "11", "111", "---"], ClashError)
ANY = ("110", no_texts(), None)
GIVEN = (SHARES, wrong_shares(SHARES), SharesError)
MOST = (30, outside(1, 30), VotersError)
ANSWERS = ("10", no_texts() + ["", "1", "100", "1-"], RowsError)
VOTER = (2, outside(1, 3), NumberError)
ROW = ("010", NO_ROWS, RowsError)

# For each callable its arguments in order: a right value, wrong ones, and what the wrong ones raise.
CALLS = (
    (lambda *given: list(clashes(*given)), (BOARD,)), (is_clash, (BOARD, ANY)), (witnesses, (BOARD, CLASH)),
    (strain, (BOARD, VOTERS, QUOTAS, CLASH)), (holds, (BOARD, VOTERS, QUOTAS)), (verdict, (BOARD, VOTERS, QUOTAS)),
    (is_failure, (BOARD, VOTERS, QUOTAS, ANY)), (lambda *given: list(all_quotas(*given)), (BOARD, VOTERS)),
    (nearest, (BOARD, VOTERS, QUOTAS)), (by_shares, (BOARD, VOTERS, GIVEN)), (first_failure, (BOARD, GIVEN, MOST)),
    (premises, (BOARD,)), (settled, (BOARD, ANSWERS)), (Rule, (BOARD, VOTERS, QUOTAS)),
    (Veto, (BOARD, VOTERS, QUOTAS, VOTER)), (Default, (BOARD, VOTERS, QUOTAS, ROW)),
    (VetoDefault, (BOARD, VOTERS, QUOTAS, VOTER, ROW)), (PremiseRule, (BOARD, VOTERS, QUOTAS)),
    (Meeting, (BOARD, VOTERS, QUOTAS)), (Meeting(Board(*EXAMPLE), 3, (2, 3, 1)).vote, (VOTER, ROW)),
    (Meeting(Board(*EXAMPLE), 3, (2, 3, 1)).assign_quotas, (QUOTAS,)),
)


class FirstWrongArgument(unittest.TestCase):
    def test_right_values(self):
        for call, arguments in CALLS:
            call(*[right for right, wrong, error in arguments])

    def test_each_wrong_value_in_each_place_with_right_ones_behind(self):
        for call, arguments in CALLS:
            given = [right for right, wrong, error in arguments]
            for k, (right, wrong, error) in enumerate(arguments):
                for value in wrong if error else ():
                    with self.subTest(call=call, k=k, value=value), self.assertRaises(error) as caught:
                        call(*given[:k], value, *given[k + 1:])
                    self.assertIs(type(caught.exception), error)

    def test_each_wrong_value_in_each_place_with_wrong_ones_behind(self):
        draw = Random(80)
        for call, arguments in CALLS:
            given = [right for right, wrong, error in arguments]
            for k, (right, wrong, error) in enumerate(arguments):
                for value in wrong if error else ():
                    behind = [draw.choice(others) for _, others, _ in arguments[k + 1:]]
                    with self.subTest(call=call, k=k, value=value, behind=behind), self.assertRaises(error) as caught:
                        call(*given[:k], value, *behind)
                    self.assertIs(type(caught.exception), error)

    def test_quotas_are_those_of_the_voters_and_the_board(self):
        board = Board(*EXAMPLE)
        for call in (holds, verdict, nearest, Rule, Veto, Default, VetoDefault, PremiseRule, Meeting):
            for n, quotas in ((2, (2, 3, 1)), (1, (1, 1, 2)), (3, (1, 1)), (3, (1, 1, 1, 1)), (30, (31, 1, 1))):
                with self.subTest(call=call, n=n, quotas=quotas), self.assertRaises(QuotasError):
                    call(board, n, quotas)
            call(board, 15, (15, 15, 15))

    def test_arguments_come_before_other_exceptions(self):
        large, bare = Board("000000"), Board("00", "01", "10")
        for wrong in outside(1, 30):
            with self.assertRaises(VotersError):
                list(all_quotas(large, wrong))
        for wrong in wrong_quotas((5,) * 6, 5):
            with self.assertRaises(QuotasError):
                nearest(large, 5, wrong)
        with self.assertRaises(LimitError):
            nearest(large, 5, (5,) * 6)
        for wrong in wrong_quotas((5, 5), 5):
            with self.assertRaises(QuotasError):
                PremiseRule(bare, 5, wrong)
        with self.assertRaises(NoneError):
            PremiseRule(bare, 5, (5, 5))
        for wrong in no_boards():
            with self.assertRaises(BoardError):
                settled(wrong, "00")

    def test_any_value_is_told_of_and_not_refused(self):
        board = Board(*EXAMPLE)
        for value in no_texts() + no_boards() + wrong_quotas((1, 1, 1), 3) + wrong_shares(SHARES):
            if value != EXAMPLE[:3]:
                self.assertIs(is_failure(board, 3, (2, 2, 2), value), False)
                self.assertIs(value in board, value in EXAMPLE)
                self.assertIs(is_clash(board, value), value in ("-01", "0-1", "110"))


if __name__ == "__main__":
    unittest.main()
