"""Tests of quotaboard.premises: point 40, the premises of sums of point 11, and points 2 and 3."""

import unittest
from inspect import signature
from itertools import combinations
from random import Random

from quotaboard import premises as module
from quotaboard.boards import Board
from quotaboard.errors import NoneError, RowsError
from quotaboard.premises import premises, settled
from tests.samples import EXAMPLE, drawn_boards, no_texts, texts


def picked(row, chosen):
    """Return the answers of the row to the chosen issues."""
    return "".join(row[k] for k in chosen)


def all_premises(board):
    """Return all premises of the board in the order of tuples, found by trying all sets of issues."""
    sets = sorted(chosen for size in range(board.issues + 1) for chosen in combinations(range(board.issues), size))
    return [
        chosen for chosen in sets
        if sorted(picked(row, chosen) for row in board.rows) == texts(len(chosen))
    ]


def boards_with_premises(seed, each=20):
    """Return boards whose drawn premises settle the other issues at random."""
    draw = Random(seed)
    result = []
    for issues in range(1, 7):
        for _ in range(each):
            chosen = sorted(draw.sample(range(issues), draw.randint(0, issues)))
            rows = []
            for answers in texts(len(chosen)):
                row = [draw.choice("01") for _ in range(issues)]
                for k, answer in zip(chosen, answers):
                    row[k] = answer
                rows.append("".join(row))
            result.append(Board(*rows))
    return result


def boards_without_premises(seed):
    """Return boards without premises, some of them with as many rows as boards with premises have."""
    boards = [Board.read(text) for text in ("000 001 010", "0000 0011 0101 1010 1100", "0000 0001 0010 0100")]
    return boards + [board for board in drawn_boards(seed, 8) if not all_premises(board)]


class Interface(unittest.TestCase):
    def test_functions_stand_in_the_module(self):
        for function, arguments in ((premises, "(board)"), (settled, "(board, answers)")):
            self.assertEqual(function.__module__, module.__name__)
            self.assertEqual(str(signature(function)), arguments)


class Premises(unittest.TestCase):
    def test_examples(self):
        self.assertEqual(premises(Board(*EXAMPLE)), (0, 1))
        self.assertEqual(premises(Board("00", "11")), (0,))
        self.assertEqual(premises(Board("00", "01")), (1,))
        self.assertIsNone(premises(Board("00", "01", "10")))
        self.assertIsNone(premises(Board("0000", "0001", "0010", "0100")))

    def test_one_row(self):
        for issues in range(1, 7):
            for row in texts(issues):
                self.assertEqual(premises(Board(row)), ())

    def test_all_rows(self):
        for issues in range(1, 7):
            self.assertEqual(premises(Board(*texts(issues))), tuple(range(issues)))

    def test_against_all_sets_of_issues(self):
        boards = drawn_boards(50) + boards_with_premises(50) + boards_without_premises(50)
        for board in boards:
            found = premises(board)
            self.assertEqual(found, min(all_premises(board), default=None))
            if found is not None:
                self.assertIs(type(found), tuple)
                self.assertTrue(all(type(k) is int for k in found))
                self.assertEqual(2 ** len(found), len(board.rows))

    def test_all_boards_of_2_and_3_issues(self):
        for issues in (1, 2, 3):
            for many in range(1, 2 ** issues + 1):
                for rows in combinations(texts(issues), many):
                    board = Board(*rows)
                    self.assertEqual(premises(board), min(all_premises(board), default=None))

    def test_premises_of_a_sum(self):
        boards = [board for board in boards_with_premises(51, 3) + boards_without_premises(51) if board.issues < 6]
        for board in boards:
            for other in boards:
                if board.issues + other.issues <= 6:
                    left, right = premises(board), premises(other)
                    expected = None
                    if left is not None and right is not None:
                        expected = left + tuple(k + board.issues for k in right)
                    self.assertEqual(premises(board + other), expected)


class Settled(unittest.TestCase):
    def test_examples(self):
        board = Board(*EXAMPLE)
        self.assertEqual([settled(board, answers) for answers in ("00", "01", "10", "11")], list(EXAMPLE))
        self.assertEqual(settled(Board("0110"), ""), "0110")
        self.assertEqual([settled(Board("01", "10"), answers) for answers in "01"], ["01", "10"])

    def test_all_answers(self):
        for board in boards_with_premises(52):
            chosen = premises(board)
            found = [settled(board, answers) for answers in texts(len(chosen))]
            self.assertEqual(sorted(found), list(board.rows))
            self.assertEqual([picked(row, chosen) for row in found], texts(len(chosen)))

    def test_no_premises_whatever_the_answers_are(self):
        for board in boards_without_premises(53):
            for answers in no_texts() + ["", "0", "00", "01", "0" * board.issues, board.rows[0], board, board.rows]:
                with self.assertRaises(NoneError):
                    settled(board, answers)

    def test_wrong_answers(self):
        for board in boards_with_premises(54, 2):
            size = len(premises(board))
            good = "01" * 3
            values = [
                "0" * (size + 1), "1" * (size + 7), "0" * 600, "-" * (size or 1), good[:size] + " ", " " + good[:size],
                "2" * (size or 1), "O" * (size or 1), "\u0661" * (size or 1), "\uff10" * (size or 1),
                good[:size] + "\n", board, list(good[:size]), tuple(good[:size]), (good[:size],),
            ]
            if size > 0:
                values += [
                    "", good[:size - 1], good[:size - 1] + "-", "x" + good[1:size], good[:size - 1] + "\n",
                    int(good[:size]), int(good[:size], 2), dict.fromkeys(good[:size]),
                ]
            for answers in no_texts() + values:
                with self.subTest(size=size, answers=answers), self.assertRaises(RowsError):
                    settled(board, answers)


class GeneralRules(unittest.TestCase):
    def test_equal_answers_when_asked_again(self):
        for board in boards_with_premises(55, 3) + boards_without_premises(55):
            rows = board.rows
            self.assertEqual(premises(board), premises(board))
            if premises(board) is not None:
                answers = "1" * len(premises(board))
                self.assertEqual(settled(board, answers), settled(board, answers))
            self.assertEqual(board.rows, rows)

    def test_list_of_answers_stays(self):
        answers = ["0", "1"]
        with self.assertRaises(RowsError):
            settled(Board(*EXAMPLE), answers)
        self.assertEqual(answers, ["0", "1"])


if __name__ == "__main__":
    unittest.main()
