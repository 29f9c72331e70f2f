"""Tests of quotaboard.quotas: points 30 to 34, and points 2 and 3."""

import unittest
from inspect import isgenerator, isgeneratorfunction, signature
from itertools import permutations
from random import Random
from time import perf_counter

from quotaboard import quotas as module
from quotaboard.boards import Board
from quotaboard.errors import ClashError, LimitError, SharesError, VotersError
from quotaboard.quotas import all_quotas, by_shares, first_failure, holds, is_failure, nearest, strain, verdict
from tests.samples import (
    EXAMPLE, counted_result, drawn_boards, drawn_quotas, drawn_votes, every_quotas, every_vote_count, has, needed_votes,
    no_texts, outside, texts, tried_clashes, tried_strain, tried_verdict, wrong_shares, wrong_votes,
)

EVEN = tuple(row for row in texts(6) if row.count("1") % 2 == 0)


def drawn_cases(seed, each=4, most=30):
    """Return tuples of a board, a number of voters, quotas for them, and the clashes of the board."""
    draw = Random(seed)
    result = []
    for board in drawn_boards(seed, each):
        parts = tried_clashes(board)
        for n in (1, 2, most, draw.randint(1, most), draw.randint(1, most)):
            for quotas in ((1,) * board.issues, (n,) * board.issues, drawn_quotas(draw, board, n)):
                result.append((board, n, quotas, parts))
    return result


def small_cases(seed):
    """Return tuples of a board with few rows, a number of few voters, and quotas for them."""
    draw = Random(seed)
    result = []
    for issues in range(1, 7):
        for _ in range(12):
            rows = draw.sample(texts(issues), draw.randint(1, min(6, 2 ** issues)))
            board = Board(*rows)
            n = draw.randint(1, 6)
            result += [(board, n, drawn_quotas(draw, board, n)) for _ in range(6)]
    return result


def tried_holds(board, n, quotas):
    """Tell by all votes whether every result is feasible."""
    return all(counted_result(votes, quotas) in board.rows for votes in every_vote_count(board, n))


def strained_holds(n, quotas, parts):
    """Tell by the strains of the clashes whether every result is feasible."""
    return all(tried_strain(n, quotas, clash) < n for clash in parts)


class Interface(unittest.TestCase):
    def test_functions_stand_in_the_module(self):
        for function, arguments in (
            (strain, "(board, n, quotas, clash)"), (holds, "(board, n, quotas)"), (verdict, "(board, n, quotas)"),
            (is_failure, "(board, n, quotas, thing)"), (all_quotas, "(board, n)"), (nearest, "(board, n, quotas)"),
            (by_shares, "(board, n, shares)"), (first_failure, "(board, shares, most)"),
        ):
            self.assertEqual(function.__module__, module.__name__)
            self.assertEqual(str(signature(function)), arguments)

    def test_all_quotas_is_a_generator(self):
        self.assertTrue(isgeneratorfunction(all_quotas))
        self.assertTrue(isgenerator(all_quotas(Board("0"), 1)))


class Strain(unittest.TestCase):
    def test_example_of_the_document(self):
        board = Board(*EXAMPLE)
        self.assertEqual([strain(board, 3, (2, 2, 2), clash) for clash in ("-01", "0-1", "110")], [2, 2, 3])
        self.assertEqual([strain(board, 3, (3, 3, 3), clash) for clash in ("-01", "0-1", "110")], [2, 2, 2])
        self.assertEqual(strain(board, 3, (1, 2, 3), "110"), 2 + 1 + 2)

    def test_each_clash_of_drawn_boards(self):
        for board, n, quotas, parts in drawn_cases(30):
            for clash in parts:
                found = strain(board, n, quotas, clash)
                self.assertIs(type(found), int)
                self.assertEqual(found, tried_strain(n, quotas, clash))

    def test_lowest_and_highest_quotas(self):
        for n in (1, 2, 7, 30):
            for clash, yes, no in (("110", 2, 1), ("-01", 1, 1), ("0-1", 1, 1)):
                self.assertEqual(strain(Board(*EXAMPLE), n, (1, 1, 1), clash), yes * (n - 1))
                self.assertEqual(strain(Board(*EXAMPLE), n, (n, n, n), clash), no * (n - 1))

    def test_parts_that_are_no_clash(self):
        for board, n, quotas, parts in drawn_cases(31, 1)[::7]:
            for part in texts(board.issues, "-01"):
                if part not in parts:
                    with self.assertRaises(ClashError):
                        strain(board, n, quotas, part)

    def test_other_values(self):
        board = Board(*EXAMPLE)
        for value in no_texts() + ["", "-", "11", "1100", "110-", " 110", "11o", ["110"], ("110",), {"110": 1}, board]:
            with self.subTest(value=value), self.assertRaises(ClashError):
                strain(board, 3, (2, 2, 2), value)


class Holds(unittest.TestCase):
    def test_example_of_the_document(self):
        self.assertIs(holds(Board(*EXAMPLE), 3, (2, 2, 2)), False)
        self.assertIs(holds(Board(*EXAMPLE), 3, (3, 3, 3)), True)

    def test_few_rows_and_voters_against_all_votes(self):
        found = []
        for board, n, quotas in small_cases(32):
            found.append(tried_holds(board, n, quotas))
            self.assertIs(holds(board, n, quotas), found[-1])
        self.assertGreater(min(found.count(True), found.count(False)), 50)

    def test_more_rows_and_voters_against_all_strains(self):
        for board, n, quotas, parts in drawn_cases(33):
            self.assertIs(holds(board, n, quotas), strained_holds(n, quotas, parts))

    def test_one_voter_and_all_rows_always_hold(self):
        for board in drawn_boards(34, 3):
            self.assertIs(holds(board, 1, (1,) * board.issues), True)
        for issues in range(1, 7):
            self.assertIs(holds(Board(*texts(issues)), 30, tuple(range(1, issues + 1))), True)

    def test_strain_just_below_and_at_the_number_of_voters(self):
        board = Board("00", "01", "10")
        for n in range(2, 31):
            for first in range(1, n + 1):
                for second in range(1, n + 1):
                    self.assertIs(holds(board, n, (first, second)), first + second > n)


class Verdict(unittest.TestCase):
    def test_example_of_the_document(self):
        self.assertEqual(verdict(Board(*EXAMPLE), 3, (2, 2, 2)), ("110", ("010", "100", "111")))
        self.assertIsNone(verdict(Board(*EXAMPLE), 3, (3, 3, 3)))

    def test_drawn_boards(self):
        failed = 0
        for board, n, quotas, parts in drawn_cases(35):
            found = verdict(board, n, quotas)
            self.assertEqual(found, tried_verdict(board, n, quotas, parts))
            self.assertIs(found is None, holds(board, n, quotas))
            if found is not None:
                failed += 1
                self.assertEqual((type(found), type(found[1])), (tuple, tuple))
                clash, votes = found
                self.assertEqual(len(votes), n)
                self.assertTrue(set(votes) <= set(board.rows))
                self.assertTrue(has(counted_result(votes, quotas), clash))
                self.assertIs(is_failure(board, n, quotas, votes), True)
        self.assertGreater(failed, 50)

    def test_first_clash_whose_strain_is_too_much(self):
        board = Board(*EXAMPLE)
        self.assertEqual(verdict(board, 3, (3, 3, 1)), ("-01", ("111", "111", "000")))
        self.assertEqual(verdict(board, 3, (3, 2, 1)), ("-01", ("111", "000", "000")))
        self.assertEqual(verdict(board, 3, (3, 1, 1)), ("0-1", ("111", "111", "000")))
        self.assertEqual(verdict(board, 3, (1, 1, 3)), ("110", ("010", "010", "100")))

    def test_voters_beyond_n_are_left_out(self):
        for n in range(2, 31):
            clash, votes = verdict(Board(*EXAMPLE), n, (1, 1, n))
            self.assertEqual((clash, votes), ("110", ("010",) * (n - 1) + ("100",)))


class IsFailure(unittest.TestCase):
    def test_example_of_the_document(self):
        board = Board(*EXAMPLE)
        for votes in permutations(("010", "100", "111")):
            self.assertIs(is_failure(board, 3, (2, 2, 2), votes), True)
            self.assertIs(is_failure(board, 3, (3, 3, 3), votes), False)
            self.assertIs(is_failure(board, 3, (2, 2, 1), votes), False)
        self.assertIs(is_failure(board, 3, (2, 2, 2), ("010", "010", "111")), False)

    def test_all_votes_of_few_voters(self):
        for board, n, quotas in small_cases(36)[::3]:
            for votes in every_vote_count(board, n):
                self.assertIs(is_failure(board, n, quotas, votes), counted_result(votes, quotas) not in board.rows)

    def test_drawn_votes(self):
        draw = Random(37)
        for board, n, quotas, _ in drawn_cases(37, 2):
            for _ in range(5):
                votes = drawn_votes(draw, board, n)
                self.assertIs(is_failure(board, n, quotas, votes), counted_result(votes, quotas) not in board.rows)

    def test_failing_votes_changed(self):
        draw = Random(38)
        for board, n, quotas, parts in drawn_cases(38, 2):
            found = tried_verdict(board, n, quotas, parts)
            if found is None:
                continue
            votes = found[1]
            self.assertIs(is_failure(board, n, quotas, tuple(draw.sample(votes, n))), True)
            for k in range(n):
                row = draw.choice(board.rows)
                other = votes[:k] + (row,) + votes[k + 1:]
                self.assertIs(is_failure(board, n, quotas, other), counted_result(other, quotas) not in board.rows)
                for fewer_or_more in (votes[:k] + votes[k + 1:], votes[:k] + (row,) + votes[k:]):
                    self.assertIs(is_failure(board, n, quotas, fewer_or_more), False)
            self.assertIs(is_failure(board, n, quotas, list(votes)), False)

    def test_values_that_are_no_votes(self):
        for board, n, quotas in (
            (Board(*EXAMPLE), 3, (2, 2, 2)), (Board("0"), 1, (1,)), (Board("01", "10"), 2, (1, 1)),
        ):
            votes = tuple(board.rows[k % len(board.rows)] for k in range(1, n + 1))
            for value in no_texts() + wrong_votes(board, votes):
                self.assertIs(is_failure(board, n, quotas, value), False)
        self.assertIs(is_failure(Board("01", "10"), 2, (1, 1), ("10", "01")), True)


class AllQuotas(unittest.TestCase):
    def test_example_of_the_document(self):
        self.assertEqual(list(all_quotas(Board(*EXAMPLE), 3)), [(3, 3, 3)])

    def test_against_all_quotas_tried_one_by_one(self):
        draw = Random(39)
        for board in drawn_boards(39, 3):
            parts = tried_clashes(board)
            for n in {1, 2, draw.randint(1, 30), draw.randint(1, 8), 30}:
                if n ** board.issues <= 1000:
                    found = list(all_quotas(board, n))
                    self.assertEqual(found, [q for q in every_quotas(board, n) if strained_holds(n, q, parts)])
                    self.assertTrue(all(type(quotas) is tuple for quotas in found))

    def test_few_voters_against_all_votes(self):
        for board, n, _ in small_cases(40)[::6]:
            if n ** board.issues <= 100:
                tried = [quotas for quotas in every_quotas(board, n) if tried_holds(board, n, quotas)]
                self.assertEqual(list(all_quotas(board, n)), tried)

    def test_no_quotas_hold(self):
        board = Board(*EVEN)
        self.assertEqual([list(all_quotas(board, n)) for n in (1, 2, 3, 4)], [[(1,) * 6], [], [], []])

    def test_two_generators_side_by_side(self):
        board, other = Board("00", "01", "10"), Board(*EXAMPLE)
        expected = list(all_quotas(board, 6))
        self.assertEqual(list(zip(all_quotas(board, 6), all_quotas(board, 6))), [(q, q) for q in expected])
        first, second = all_quotas(board, 6), all_quotas(other, 5)
        found = [next(first), next(first)]
        self.assertEqual(list(second), list(all_quotas(other, 5)))
        self.assertEqual(found + list(first), expected)

    def test_limit(self):
        for issues, n in ((6, 4), (4, 8), (3, 16), (2, 30), (1, 30), (5, 5)):
            self.assertEqual(next(all_quotas(Board("1" * issues), n)), (1,) * issues)
        for issues, n, amount in (
            (3, 17, 4913), (4, 9, 6561), (5, 6, 7776), (6, 5, 15625), (6, 30, 729000000), (3, 30, 27000),
        ):
            found = all_quotas(Board("1" * issues), n)
            with self.subTest(issues=issues, n=n), self.assertRaises(LimitError) as caught:
                next(found)
            self.assertEqual((caught.exception.amount, caught.exception.limit), (amount, 4096))

    def test_all_4096_quotas(self):
        start = perf_counter()
        for issues, n in ((6, 4), (4, 8), (3, 16)):
            found = list(all_quotas(Board(*texts(issues)), n))
            self.assertEqual(found, list(every_quotas(Board("0" * issues), n)))
        self.assertLess(perf_counter() - start, 5)


class Nearest(unittest.TestCase):
    def test_example_of_the_document(self):
        board = Board(*EXAMPLE)
        self.assertEqual(nearest(board, 3, (2, 2, 2)), (3, (3, 3, 3)))
        self.assertEqual(nearest(board, 3, (3, 3, 3)), (0, (3, 3, 3)))
        self.assertEqual(nearest(board, 3, (3, 1, 3)), (2, (3, 3, 3)))

    def test_first_of_several(self):
        board = Board("00", "01", "10")
        self.assertEqual(nearest(board, 3, (1, 1)), (2, (1, 3)))
        self.assertEqual(nearest(board, 4, (2, 2)), (1, (2, 3)))
        self.assertEqual(nearest(board, 30, (1, 1)), (29, (1, 30)))

    def test_against_all_quotas_tried_one_by_one(self):
        draw = Random(41)
        for board in drawn_boards(41, 3):
            parts = tried_clashes(board)
            for n in {1, 2, draw.randint(1, 8), draw.randint(1, 30)}:
                if n ** board.issues > 1000:
                    continue
                held = [q for q in every_quotas(board, n) if strained_holds(n, q, parts)]
                for _ in range(4):
                    quotas = drawn_quotas(draw, board, n)
                    tried = [(sum(abs(a - b) for a, b in zip(quotas, q)), q) for q in held]
                    least = min(tried, default=None)
                    found = nearest(board, n, quotas)
                    self.assertEqual(found, least)
                    if held:
                        self.assertEqual((type(found), type(found[0]), type(found[1])), (tuple, int, tuple))

    def test_none(self):
        for n in (2, 3, 4):
            self.assertIsNone(nearest(Board(*EVEN), n, (n,) * 6))

    def test_limit(self):
        self.assertEqual(nearest(Board(*texts(6)), 4, (4, 3, 2, 1, 2, 3)), (0, (4, 3, 2, 1, 2, 3)))
        for issues, n, amount in ((3, 17, 4913), (6, 5, 15625), (4, 9, 6561), (6, 30, 729000000)):
            for quotas in ((1,) * issues, (n,) * issues):
                with self.assertRaises(LimitError) as caught:
                    nearest(Board(*texts(issues)), n, quotas)
                self.assertEqual((caught.exception.amount, caught.exception.limit), (amount, 4096))


class ByShares(unittest.TestCase):
    def test_majorities(self):
        board = Board(*EXAMPLE)
        for n in range(1, 31):
            majority = Board.majority(n)
            self.assertEqual(by_shares(board, n, ((1, 2),) * 3), (majority,) * 3)
            self.assertEqual(by_shares(board, n, ((50, 100), (1, 2), (2, 4))), (majority,) * 3)
        self.assertEqual(by_shares(board, 9, ((2, 3), (1, 3), (0, 1))), (7, 4, 1))

    def test_all_shares_and_voters(self):
        for n in range(1, 31):
            for b in range(1, 101):
                for a in range(0, b, 1 if b in (1, 2, 3, 30, 99, 100) else 7):
                    # The quota is the least number of votes that are more than a of b parts of all.
                    least = next(votes for votes in range(1, n + 1) if votes * b > a * n)
                    self.assertEqual(by_shares(Board("0"), n, ((a, b),)), (least,))

    def test_lowest_and_highest_shares(self):
        board = Board("000000")
        for n in range(1, 31):
            shares = ((0, 1), (0, 100), (99, 100), (1, 100), (98, 99), (50, 51))
            self.assertEqual(by_shares(board, n, shares), (1, 1, n, 1, n, n))

    def test_wrong_shares(self):
        for board, shares in (
            (Board("0"), ((1, 2),)), (Board(*EXAMPLE), ((1, 2), (0, 1), (99, 100))),
            (Board("01", "10"), ((1, 2), (2, 3))), (Board("000000"), ((0, 100),) * 6),
        ):
            for value in wrong_shares(shares):
                with self.subTest(value=value), self.assertRaises(SharesError):
                    by_shares(board, 3, value)
                with self.subTest(value=value), self.assertRaises(SharesError):
                    first_failure(board, value, 3)


class FirstFailure(unittest.TestCase):
    def test_example(self):
        board, shares = Board(*EXAMPLE), ((1, 2),) * 3
        self.assertEqual(first_failure(board, shares, 30), (3, (2, 2, 2), "110", ("010", "100", "111")))
        self.assertEqual(first_failure(board, shares, 3), (3, (2, 2, 2), "110", ("010", "100", "111")))
        self.assertIsNone(first_failure(board, shares, 2))
        self.assertIsNone(first_failure(board, ((99, 100),) * 3, 30))

    def test_least_number_of_voters(self):
        draw = Random(42)
        found_numbers = set()
        for board in drawn_boards(42, 4):
            parts = tried_clashes(board)
            for _ in range(4):
                pairs = [(draw.randint(0, b - 1), b) for b in (draw.randint(1, 100) for _ in range(board.issues))]
                shares = tuple(draw.choice((pair, pair, (1, 2), (0, 1), (99, 100), (2, 3))) for pair in pairs)
                least = None
                for n in range(1, 31):
                    quotas = tuple(n * a // b + 1 for a, b in shares)
                    self.assertEqual(by_shares(board, n, shares), quotas)
                    tried = tried_verdict(board, n, quotas, parts)
                    if tried is not None:
                        least = (n, quotas, *tried)
                        break
                found = first_failure(board, shares, 30)
                self.assertEqual(found, least)
                if least is not None:
                    found_numbers.add(least[0])
                    self.assertEqual([type(part) for part in found], [int, tuple, str, tuple])
                    self.assertEqual(first_failure(board, shares, least[0]), least)
                    self.assertIsNone(first_failure(board, shares, least[0] - 1) if least[0] > 1 else None)
        self.assertGreater(len(found_numbers), 3)

    def test_failure_with_30_voters_and_not_with_29(self):
        board, shares = Board("00", "01", "10"), ((28, 29), (0, 1))
        self.assertEqual(first_failure(board, shares, 30), (30, (29, 1), "11", ("01",) + ("10",) * 29))
        for most in (1, 2, 28, 29):
            self.assertIsNone(first_failure(board, shares, most))

    def test_wrong_most(self):
        board, shares = Board(*EXAMPLE), ((1, 2),) * 3
        for most in outside(1, 30):
            with self.subTest(most=most), self.assertRaises(VotersError):
                first_failure(board, shares, most)


class Speed(unittest.TestCase):
    def test_6_issues_30_voters_and_4096_quotas_take_little_time(self):
        draw = Random(43)
        boards = [Board(*texts(6)[:63]), Board(*EVEN), Board(*draw.sample(texts(6), 20))]
        start = perf_counter()
        for board in boards:
            quotas = drawn_quotas(draw, board, 30)
            for _ in range(20):
                holds(board, 30, quotas)
                verdict(board, 30, quotas)
                first_failure(board, ((2, 3),) * 6, 30)
                is_failure(board, 30, quotas, drawn_votes(draw, board, 30))
            for _ in range(3):
                list(all_quotas(board, 4))
                nearest(board, 4, (1, 2, 3, 4, 1, 2))
        self.assertLess(perf_counter() - start, 10)


class GeneralRules(unittest.TestCase):
    def test_equal_answers_when_asked_again(self):
        for board, n, quotas, parts in drawn_cases(44, 1)[::5]:
            shares = ((1, 2),) * board.issues
            for ask in (
                lambda: holds(board, n, quotas), lambda: verdict(board, n, quotas),
                lambda: [strain(board, n, quotas, clash) for clash in parts], lambda: by_shares(board, n, shares),
                lambda: first_failure(board, shares, n), lambda: is_failure(board, n, quotas, (board.rows[0],) * n),
                lambda: list(all_quotas(board, 2)), lambda: nearest(board, 2, (1,) * board.issues),
            ):
                self.assertEqual(ask(), ask())

    def test_returned_values_are_accepted_again(self):
        board = Board(*EXAMPLE)
        clash, votes = verdict(board, 3, (2, 2, 2))
        self.assertEqual(strain(board, 3, (2, 2, 2), clash), 3)
        self.assertIs(is_failure(board, 3, (2, 2, 2), votes), True)
        self.assertIs(holds(board, 3, nearest(board, 3, (2, 2, 2))[1]), True)
        self.assertIs(holds(board, 3, by_shares(board, 3, ((1, 2),) * 3)), False)

    def test_arguments_stay(self):
        board, thing = Board(*EXAMPLE), ["010", "100", ["111", {"110": ("000",)}]]
        self.assertIs(is_failure(board, 3, (2, 2, 2), thing), False)
        self.assertEqual(thing, ["010", "100", ["111", {"110": ("000",)}]])
        self.assertEqual(board.rows, EXAMPLE)


if __name__ == "__main__":
    unittest.main()
