"""Tests of quotaboard.clashes: point 20, the clashes of sums of point 11, and points 2 and 3."""

import unittest
from inspect import isgenerator, isgeneratorfunction, signature
from itertools import combinations
from random import Random
from time import perf_counter

from quotaboard import clashes as module
from quotaboard.boards import Board
from quotaboard.clashes import clashes, is_clash, witnesses
from quotaboard.errors import BoardError, ClashError
from tests.samples import (
    EXAMPLE, drawn_boards, has, in_order, no_boards, no_texts, texts, tried_clashes, tried_witnesses, without,
)


class Interface(unittest.TestCase):
    def test_functions_stand_in_the_module(self):
        for function, arguments in (
            (clashes, "(board)"), (is_clash, "(board, thing)"), (witnesses, "(board, clash)"),
        ):
            self.assertEqual(function.__module__, module.__name__)
            self.assertEqual(str(signature(function)), arguments)

    def test_clashes_is_a_generator(self):
        self.assertTrue(isgeneratorfunction(clashes))
        self.assertTrue(isgenerator(clashes(Board("0"))))


class Clashes(unittest.TestCase):
    def test_example_of_the_document(self):
        self.assertEqual(list(clashes(Board(*EXAMPLE))), ["-01", "0-1", "110"])

    def test_all_rows(self):
        for length in range(1, 7):
            self.assertEqual(list(clashes(Board(*texts(length)))), [])

    def test_one_row(self):
        self.assertEqual(list(clashes(Board("0"))), ["1"])
        self.assertEqual(list(clashes(Board("1"))), ["0"])
        self.assertEqual(list(clashes(Board("0110"))), ["---1", "--0-", "-0--", "1---"])

    def test_one_row_missing(self):
        for length in range(1, 7):
            for missing in texts(length):
                rows = [row for row in texts(length) if row != missing]
                self.assertEqual(list(clashes(Board(*rows))), [missing])

    def test_drawn_boards(self):
        for board in drawn_boards(20):
            self.assertEqual(list(clashes(board)), tried_clashes(board))

    def test_fewer_answers_come_first(self):
        board = Board("0000", "0011", "0101", "0110", "0111")
        self.assertEqual(list(clashes(board)), ["1---", "-001", "-010", "-100"])

    def test_all_boards_of_2_issues(self):
        expected = {
            "00 11": ["01", "10"], "01 10": ["00", "11"], "00 01": ["1-"], "00 10": ["-1"], "00 01 10": ["11"],
            "01 10 11": ["00"], "00": ["-1", "1-"], "11": ["-0", "0-"], "01": ["-0", "1-"], "10": ["-1", "0-"],
        }
        for text, found in expected.items():
            with self.subTest(text=text):
                self.assertEqual(list(clashes(Board.read(text))), found)

    def test_all_boards_of_1_to_3_issues(self):
        for issues in (1, 2, 3):
            for many in range(1, 2 ** issues + 1):
                for rows in combinations(texts(issues), many):
                    board = Board(*rows)
                    self.assertEqual(list(clashes(board)), tried_clashes(board))

    def test_6_issues_take_little_time(self):
        half = Board(*[row for row in texts(6) if row.count("1") % 2 == 0])
        few = Board(*[row for row in texts(6) if row.count("1") == 3])
        start = perf_counter()
        self.assertEqual(list(clashes(half)), [row for row in texts(6) if row.count("1") % 2 == 1])
        self.assertEqual(len(list(clashes(few))), 30)
        self.assertLess(perf_counter() - start, 2)

    def test_clashes_of_a_sum(self):
        draws = [board for board in drawn_boards(21, 3) if board.issues < 6]
        for board in draws:
            for other in draws:
                if board.issues + other.issues > 6:
                    continue
                left = [part + "-" * other.issues for part in clashes(board)]
                right = ["-" * board.issues + part for part in clashes(other)]
                self.assertEqual(list(clashes(board + other)), in_order(left + right))

    def test_error_when_first_iterated(self):
        for value in no_boards():
            found = clashes(value)
            with self.subTest(value=value), self.assertRaises(BoardError):
                next(found)


class IsClash(unittest.TestCase):
    def test_each_part_of_drawn_boards(self):
        for board in drawn_boards(22, 3):
            found = tried_clashes(board)
            for part in texts(board.issues, "-01"):
                self.assertIs(is_clash(board, part), part in found)

    def test_answers_more_and_less(self):
        board = Board(*EXAMPLE)
        self.assertIs(is_clash(board, "-01"), True)
        for part in ("001", "101", "--1", "-0-", "---", "11-", "-10", "1-0", "011"):
            self.assertIs(is_clash(board, part), False)

    def test_shorter_and_longer_texts(self):
        for board in drawn_boards(23, 1):
            for part in list(clashes(board)) + ["-" * board.issues]:
                for text in ("", part[1:], part[:-1], part + "-", "-" + part, part + " ", part + part, part * 99):
                    self.assertIs(is_clash(board, text), False)

    def test_other_signs(self):
        board = Board(*EXAMPLE)
        for text in ("*01", "_01", " 01", "-O1", "-21", "11o", "11\uff10", "-0\u00b9", "\u221201", "abc"):
            self.assertIs(is_clash(board, text), False)

    def test_values_of_every_kind(self):
        more = [["-01"], ("-01",), ["-", "0", "1"], ("-", "0", "1"), {"-01": "-01"}, Board(*EXAMPLE), 110]
        for board in (Board(*EXAMPLE), Board("0"), Board("000000")):
            for value in no_texts() + more:
                self.assertIs(is_clash(board, value), False)

    def test_no_board(self):
        for value in no_boards():
            for thing in ("-01", "", None, ["-01"]):
                with self.subTest(value=value), self.assertRaises(BoardError):
                    is_clash(value, thing)


class Witnesses(unittest.TestCase):
    def test_example_of_the_document(self):
        board = Board(*EXAMPLE)
        self.assertEqual(witnesses(board, "110"), ("010", "100", "111"))
        self.assertEqual(witnesses(board, "-01"), ("111", "000"))
        self.assertEqual(witnesses(board, "0-1"), ("111", "000"))

    def test_each_clash_of_drawn_boards(self):
        for board in drawn_boards(24):
            for clash in clashes(board):
                found = witnesses(board, clash)
                self.assertIs(type(found), tuple)
                expected = [next(row for row in board.rows if has(row, less)) for less in without(clash)]
                self.assertEqual(found, tuple(expected))

    def test_parts_that_are_no_clash(self):
        for board in drawn_boards(25, 1):
            found = tried_clashes(board)
            for part in texts(board.issues, "-01"):
                if part not in found:
                    with self.assertRaises(ClashError):
                        witnesses(board, part)

    def test_other_texts_and_kinds(self):
        board = Board(*EXAMPLE)
        for value in no_texts() + ["", "-", "01", "-01-", "--01", "*01", "-01 ", ["-01"], ("-01",), {"-01": 1}, board]:
            with self.subTest(value=value), self.assertRaises(ClashError):
                witnesses(board, value)

    def test_no_board_comes_first(self):
        for value in no_boards():
            for clash in ("-01", "111", "", None, True, ["-01"]):
                with self.subTest(value=value), self.assertRaises(BoardError):
                    witnesses(value, clash)


class Speed(unittest.TestCase):
    def timed(self, seconds, ask):
        """Return what the call returns, and expect that it takes less time."""
        start = perf_counter()
        answers = ask()
        self.assertLess(perf_counter() - start, seconds)
        return answers

    def test_is_clash_of_each_part_some_thousand_times(self):
        for many in (63, 64):
            board, parts = Board(*texts(6)[:many]), texts(6, "-01")
            others = ["11111", "1111111", "11111x", "", None, True, 111111, ["111111"], ("111111",), {"111111": 1}]
            found = tried_clashes(board)
            self.assertEqual(found, ["111111"][:64 - many])
            for answers in self.timed(3, lambda: [[is_clash(board, part) for part in parts] for _ in range(10)]):
                self.assertEqual([part for part, answer in zip(parts, answers) if answer], found)
            for answers in self.timed(3, lambda: [[is_clash(board, thing) for thing in others] for _ in range(500)]):
                self.assertEqual(answers, [False] * len(others))
            self.assertEqual(set(self.timed(3, lambda: [is_clash(board, "------") for _ in range(5000)])), {False})

    def test_witnesses_some_thousand_times(self):
        board = Board(*texts(6)[:63])
        expected = ("011111", "101111", "110111", "111011", "111101", "111110")
        self.assertEqual(tried_witnesses(board, "111111"), expected)
        found = self.timed(3, lambda: [witnesses(board, "111111") for _ in range(5000)])
        self.assertEqual(found, [expected] * 5000)

    def test_refused_witnesses_some_thousand_times(self):
        def refused(board, part):
            try:
                witnesses(board, part)
            except ClashError:
                return True
            return False

        for many in (63, 64):
            board = Board(*texts(6)[:many])
            parts = [part for part in texts(6, "-01") if part != "111111" or many == 64]
            found = self.timed(3, lambda: [refused(board, part) for _ in range(5) for part in parts])
            self.assertEqual(set(found), {True})

    def test_all_clashes_of_boards_with_5_and_6_issues(self):
        draw = Random(27)
        boards = [Board(*texts(6)[:63]), Board(*texts(6)), Board(*texts(5)[:31]), Board(*texts(5))]
        boards += [Board(*draw.sample(texts(k), many)) for k in (5, 6) for many in range(1, 2 ** k, 4)]
        found = self.timed(4, lambda: [[list(clashes(board)) for _ in range(100)] for board in boards])
        for board, answers in zip(boards, found):
            self.assertEqual(answers, [tried_clashes(board)] * 100)


class GeneralRules(unittest.TestCase):
    def test_equal_answers_when_asked_again(self):
        for board in drawn_boards(26, 2):
            rows = board.rows
            found = list(clashes(board))
            self.assertEqual(list(clashes(board)), found)
            for clash in found:
                self.assertEqual(witnesses(board, clash), witnesses(board, clash))
                self.assertIs(is_clash(board, clash), True)
            self.assertEqual(board.rows, rows)

    def test_two_generators_at_once(self):
        board = Board(*EXAMPLE)
        self.assertEqual(list(zip(clashes(board), clashes(board))), [(part, part) for part in ("-01", "0-1", "110")])

    def test_arguments_stay(self):
        board, thing = Board(*EXAMPLE), ["-01", {"a": ["110"]}]
        is_clash(board, thing)
        with self.assertRaises(ClashError):
            witnesses(board, thing)
        self.assertEqual(thing, ["-01", {"a": ["110"]}])
        self.assertEqual(board.rows, EXAMPLE)


if __name__ == "__main__":
    unittest.main()
