"""Tests of quotaboard.boards: points 2, 3, 10, 11, and Board.majority of point 30."""

import unittest
from inspect import signature
from itertools import permutations
from random import Random

from quotaboard import boards
from quotaboard.boards import Board
from quotaboard.errors import BoardError, NumberError, RowsError, TextError, VotersError
from tests.samples import EXAMPLE, drawn_boards, drawn_rows, nested, no_texts, texts

WRONG_WORDS = (
    "", " ", "2", "02", "0a", "-", "0-", "O", "l", "+1", "-1", "0.0", "0_1", "0,1", "0 1", " 0", "0 ", "01\n", "\t0",
    "0\u00b9", "\uff10\uff11", "0\u0661", "0000000", "1111111", "0" * 64, "1" * 600,
)


class Interface(unittest.TestCase):
    def test_listed_names_stand_in_the_class(self):
        self.assertEqual(Board.__module__, boards.__name__)
        own = vars(Board)
        self.assertEqual(own["MOST"], 6)
        for name in ("rows", "issues"):
            self.assertIsInstance(own[name], property)
        self.assertIsInstance(own["read"], classmethod)
        self.assertIsInstance(own["majority"], staticmethod)
        for name in ("text", "__contains__", "__getitem__", "__add__", "__neg__"):
            self.assertIn(name, own)

    def test_arguments_have_the_listed_names(self):
        self.assertEqual(str(signature(Board)), "(*rows)")
        self.assertEqual(str(signature(Board.read)), "(text)")
        self.assertEqual(str(signature(Board.majority)), "(n)")
        self.assertEqual(str(signature(Board("0").text)), "()")
        self.assertEqual(Board.read(text="0 1").rows, ("0", "1"))
        self.assertEqual(Board.majority(n=3), 2)

    def test_most_is_6_and_an_integer(self):
        self.assertEqual((Board.MOST, Board("0").MOST), (6, 6))
        self.assertIs(type(Board.MOST), int)


class Creation(unittest.TestCase):
    def test_rows_ascend_whatever_their_order(self):
        for order in permutations(EXAMPLE):
            board = Board(*order)
            self.assertEqual(board.rows, EXAMPLE)
            self.assertEqual(board.issues, 3)

    def test_one_row_all_rows_and_drawn_rows(self):
        for rows in drawn_rows(10):
            board = Board(*rows)
            self.assertIs(type(board.rows), tuple)
            self.assertEqual(board.rows, tuple(sorted(rows)))
            self.assertIs(type(board.issues), int)
            self.assertEqual(board.issues, len(rows[0]))

    def test_no_row(self):
        with self.assertRaises(RowsError):
            Board()

    def test_empty_row(self):
        for rows in (("",), ("", ""), ("", "0"), ("0", "")):
            with self.subTest(rows=rows), self.assertRaises(RowsError):
                Board(*rows)

    def test_most_issues(self):
        self.assertEqual(Board("000000", "111111").issues, 6)
        for rows in (("0000000",), ("0000000", "1111111"), ("0" * 13,), ("000000", "0000000")):
            with self.subTest(rows=rows), self.assertRaises(RowsError):
                Board(*rows)

    def test_unequal_lengths(self):
        for rows in (("0", "00"), ("00", "0"), ("000", "001", "01"), ("01", "10", "000"), ("111", "1110", "110")):
            with self.subTest(rows=rows), self.assertRaises(RowsError):
                Board(*rows)

    def test_row_given_twice(self):
        for rows in drawn_rows(11, 3):
            for again in (rows[0], rows[-1]):
                with self.assertRaises(RowsError):
                    Board(*rows, again)
                with self.assertRaises(RowsError):
                    Board(again, *rows)

    def test_other_signs(self):
        for word in WRONG_WORDS:
            for rows in ((word,), ("0", word), (word, "0"), ("00", word), (word, "00", "01")):
                with self.subTest(rows=rows), self.assertRaises(RowsError):
                    Board(*rows)

    def test_other_kinds(self):
        for value in no_texts() + [Board("000")]:
            for rows in ((value,), ("000", value), (value, "000"), ("0", "1", value), (value, value)):
                with self.subTest(value=value), self.assertRaises(RowsError):
                    Board(*rows)

    def test_board_is_equal_to_itself(self):
        for board in drawn_boards(12, 2):
            self.assertTrue(board == board)
            self.assertFalse(board != board)

    def test_properties_cannot_be_assigned(self):
        board = Board(*EXAMPLE)
        with self.assertRaises(AttributeError):
            board.rows = ("0",)
        with self.assertRaises(AttributeError):
            board.issues = 1
        self.assertEqual((board.rows, board.issues), (EXAMPLE, 3))


class ReadAndText(unittest.TestCase):
    def test_every_order_of_rows(self):
        for order in permutations(EXAMPLE):
            board = Board.read(" ".join(order))
            self.assertIsInstance(board, Board)
            self.assertEqual(board.rows, EXAMPLE)
            self.assertEqual(board.text(), "000 010 100 111")

    def test_reading_the_text_gives_the_rows_again(self):
        for rows in drawn_rows(13):
            board = Board(*rows)
            self.assertEqual(board.text(), " ".join(sorted(rows)))
            self.assertEqual(Board.read(board.text()).rows, board.rows)
            self.assertEqual(Board.read(" ".join(rows)).rows, board.rows)

    def test_wrong_spaces(self):
        for text in (
            "", " ", "  ", "0  1", "00  01 10", " 0", "0 ", " 0 1", "0 1 ", "0 1  ", "0\t1", "0\n1", "0 1\n", "\n0 1",
            "0\r1", "0\x0b1", "0\x0c1", "0\xa01", "0\u20031", "0 \t1", "0,1", "0, 1", "0;1",
        ):
            with self.subTest(text=text), self.assertRaises(TextError):
                Board.read(text)

    def test_wrong_words(self):
        for word in WRONG_WORDS:
            if word == "0 1":
                continue
            for text in (word, "0 " + word, word + " 1", "00 " + word):
                with self.subTest(text=text), self.assertRaises(TextError):
                    Board.read(text)

    def test_rows_twice_or_of_unequal_length(self):
        for text in ("0 0", "0 1 0", "000 111 000", "00 0", "0 00", "000 010 10", "000000 0000000"):
            with self.subTest(text=text), self.assertRaises(TextError):
                Board.read(text)

    def test_no_text(self):
        for value in no_texts() + [Board("000")]:
            with self.subTest(value=value), self.assertRaises(TextError):
                Board.read(value)


class Membership(unittest.TestCase):
    def test_all_texts(self):
        for rows in drawn_rows(14):
            board = Board(*rows)
            for length in range(8):
                for text in texts(length):
                    self.assertIs(text in board, text in rows)

    def test_parts_and_other_texts(self):
        board = Board(*EXAMPLE)
        for text in ("-00", "---", "0-0", "00", "000 ", " 000", "000 010", "0O0", "a", "\uff10\uff10\uff10"):
            self.assertIs(text in board, False)

    def test_values_of_every_kind(self):
        for board in (Board("000"), Board(*EXAMPLE), Board("0", "1"), Board("1")):
            for value in no_texts() + [board]:
                self.assertIs(value in board, False)

    def test_value_is_not_modified(self):
        value = ["000", {"000": ["000"]}]
        self.assertIs(value in Board("000"), False)
        self.assertEqual(value, ["000", {"000": ["000"]}])


class Index(unittest.TestCase):
    def test_each_index(self):
        for rows in drawn_rows(15):
            board = Board(*rows)
            self.assertEqual([board[k] for k in range(len(rows))], sorted(rows))

    def test_indexes_outside(self):
        for board in drawn_boards(16, 3):
            many = len(board.rows)
            for k in (-1, -many, many, many + 1, 64, 9999999999999, -9999999999999):
                with self.subTest(k=k, many=many), self.assertRaises(NumberError):
                    board[k]

    def test_indexes_of_other_kinds(self):
        board = Board(*EXAMPLE)
        for k in (True, False, None, "0", "000", "", (0,), (0, 1), (), [0], {0: 0}, slice(0, 1), nested(8)):
            with self.subTest(k=k), self.assertRaises(NumberError):
                board[k]

    def test_board_is_not_iterated_over(self):
        with self.assertRaises(TypeError):
            list(Board(*EXAMPLE))


class Sums(unittest.TestCase):
    def test_rows_and_issues_up_to_6(self):
        draw = Random(17)
        for first in range(1, 6):
            for second in range(1, 7 - first):
                for _ in range(4):
                    left = draw.sample(texts(first), draw.randint(1, len(texts(first))))
                    right = draw.sample(texts(second), draw.randint(1, len(texts(second))))
                    board, other = Board(*left), Board(*right)
                    total = board + other
                    self.assertIsInstance(total, Board)
                    self.assertEqual(total.rows, tuple(sorted(a + b for a in left for b in right)))
                    self.assertEqual(total.issues, first + second)
                    self.assertEqual((board.rows, other.rows), (tuple(sorted(left)), tuple(sorted(right))))

    def test_board_with_itself(self):
        board = Board("01", "10")
        self.assertEqual((board + board).rows, ("0101", "0110", "1001", "1010"))
        self.assertEqual((board + board + board).issues, 6)
        self.assertEqual(board.rows, ("01", "10"))

    def test_order_matters(self):
        self.assertEqual((Board("0") + Board("11")).rows, ("011",))
        self.assertEqual((Board("11") + Board("0")).rows, ("110",))

    def test_more_than_6_issues(self):
        for first in range(1, 7):
            for second in range(7 - first, 7):
                for board, other in (
                    (Board("0" * first), Board("1" * second)),
                    (Board(*texts(first)), Board(*texts(second))),
                ):
                    with self.subTest(first=first, second=second), self.assertRaises(RowsError):
                        board + other
                    self.assertEqual((board.issues, other.issues), (first, second))

    def test_no_board(self):
        for board in (Board("0"), Board(*EXAMPLE), Board("000000")):
            for value in no_texts() + ["", "0", "000", "0000000"]:
                with self.subTest(value=value), self.assertRaises(BoardError):
                    board + value


class Exchange(unittest.TestCase):
    def test_rows_are_exchanged(self):
        self.assertEqual((-Board("000", "010", "100", "111")).rows, ("000", "011", "101", "111"))
        self.assertEqual((-Board("0")).rows, ("1",))

    def test_drawn_boards(self):
        for rows in drawn_rows(18):
            board = Board(*rows)
            turned = -board
            self.assertIsInstance(turned, Board)
            self.assertEqual(turned.rows, tuple(sorted(row.translate({48: 49, 49: 48}) for row in rows)))
            self.assertEqual(turned.issues, board.issues)
            self.assertEqual((-turned).rows, board.rows)
            self.assertEqual(board.rows, tuple(sorted(rows)))


class Majority(unittest.TestCase):
    def test_1_to_30(self):
        self.assertEqual([Board.majority(n) for n in (1, 2, 3, 4, 5, 29, 30)], [1, 2, 2, 3, 3, 15, 16])
        for n in range(1, 31):
            self.assertIs(type(Board.majority(n)), int)
            self.assertTrue(2 * Board.majority(n) > n >= 2 * Board.majority(n) - 2)

    def test_off_an_object(self):
        self.assertEqual(Board("0").majority(5), 3)

    def test_wrong_numbers(self):
        for n in (0, 31, -1, -30, 9999999999999, True, False, None, "3", "", (3,), [3], {3: 3}, Board("0")):
            with self.subTest(n=n), self.assertRaises(VotersError):
                Board.majority(n)


class GeneralRules(unittest.TestCase):
    def test_equal_answers_when_asked_again(self):
        for board in drawn_boards(19, 2):
            for ask in (
                lambda: board.rows, lambda: board.issues, lambda: board.text(), lambda: board[0],
                lambda: "0" in board, lambda: (-board).rows, lambda: Board.read(board.text()).rows,
            ):
                self.assertEqual(ask(), ask())

    def test_calls_that_raise_change_nothing(self):
        board, other = Board(*EXAMPLE), Board("0000")
        for kind, call in (
            (NumberError, lambda: board[4]), (NumberError, lambda: board[True]), (BoardError, lambda: board + "0"),
            (RowsError, lambda: board + other), (TextError, lambda: board.read("0 0")),
            (VotersError, lambda: board.majority(0)),
        ):
            with self.assertRaises(kind):
                call()
            self.assertEqual((board.rows, board.issues, board.text()), (EXAMPLE, 3, "000 010 100 111"))
            self.assertEqual(other.rows, ("0000",))

    def test_handed_in_list_stays(self):
        rows = ["111", "000"]
        board = Board(*rows)
        rows.append("010")
        self.assertEqual(board.rows, ("000", "111"))


if __name__ == "__main__":
    unittest.main()
