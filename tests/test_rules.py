"""Tests of quotaboard.rules: point 50, and points 2 and 3."""

import unittest
from inspect import signature
from itertools import product
from random import Random
from time import perf_counter

from quotaboard import rules as module
from quotaboard.boards import Board
from quotaboard.errors import NoneError, NumberError, RowsError, VotesError
from quotaboard.premises import premises
from quotaboard.rules import Default, PremiseRule, Rule, Veto, VetoDefault
from tests.samples import (
    EXAMPLE, counted_result, drawn_boards, drawn_quotas, drawn_votes, no_texts, outside, texts, wrong_votes,
)

CLASSES = (Rule, Veto, Default, VetoDefault, PremiseRule)
VOTES = ("010", "100", "111")


def vetoed(row, vote):
    """Return the row with yes only where the vote has yes, too."""
    return "".join("1" if answers == ("1", "1") else "0" for answers in zip(row, vote))


def drawn_cases(seed, each=3, times=6):
    """Return tuples of a board, a number of voters, quotas and votes."""
    draw = Random(seed)
    result = []
    for board in drawn_boards(seed, each):
        for n in (1, 2, 3, 30, draw.randint(1, 30)):
            for _ in range(times):
                result.append((board, n, drawn_quotas(draw, board, n), drawn_votes(draw, board, n)))
    return result


def premise_result(board, quotas, votes):
    """Return the feasible row with the answers that are decided for the premises."""
    chosen, row = premises(board), counted_result(votes, quotas)
    return next(other for other in board.rows if all(other[k] == row[k] for k in chosen))


class Interface(unittest.TestCase):
    def test_classes_stand_in_the_module_with_their_methods(self):
        for kind, arguments in (
            (Rule, "(board, n, quotas)"), (Veto, "(board, n, quotas, voter=1)"),
            (Default, "(board, n, quotas, row=None)"), (VetoDefault, "(board, n, quotas, voter=1, row=None)"),
            (PremiseRule, "(board, n, quotas)"),
        ):
            self.assertEqual(kind.__module__, module.__name__)
            self.assertEqual(str(signature(kind)), arguments)
            for name in ("__init__", "__call__", "describe"):
                self.assertIn(name, vars(kind))
            rule = kind(Board(*EXAMPLE), 3, (2, 2, 2))
            self.assertEqual(str(signature(rule)), "(votes)")
            self.assertEqual(str(signature(rule.describe)), "()")

    def test_subclasses(self):
        below = {
            Rule: {Rule}, Veto: {Veto, Rule}, Default: {Default, Rule},
            VetoDefault: {VetoDefault, Default, Veto, Rule}, PremiseRule: {PremiseRule, Rule},
        }
        for kind, other in product(CLASSES, CLASSES):
            self.assertIs(issubclass(kind, other), other in below[kind])

    def test_describe(self):
        board = Board(*EXAMPLE)
        for kind, told in (
            (Rule, "Rule"), (Veto, "Veto < Rule"), (Default, "Default < Rule"),
            (VetoDefault, "VetoDefault < Default < Veto < Rule"), (PremiseRule, "PremiseRule < Rule"),
        ):
            rule = kind(board, 3, (2, 2, 2))
            self.assertEqual(rule.describe(), told)
            self.assertEqual(told, " < ".join(part.__name__ for part in kind.__mro__ if part is not object))

    def test_arguments_by_name(self):
        board = Board(*EXAMPLE)
        rule = VetoDefault(row="100", voter=2, quotas=(2, 2, 2), n=3, board=board)
        self.assertEqual(rule(votes=VOTES), "100")
        self.assertEqual(VetoDefault(board, 3, (2, 2, 2), row="111")(VOTES), "010")
        self.assertEqual(VetoDefault(board, 3, (2, 2, 2), 3, "111")(VOTES), "111")


class PlainRule(unittest.TestCase):
    def test_example_of_the_document(self):
        self.assertEqual(Rule(Board(*EXAMPLE), 3, (2, 2, 2))(VOTES), "110")

    def test_drawn_votes(self):
        results = set()
        for board, n, quotas, votes in drawn_cases(60):
            result = Rule(board, n, quotas)(votes)
            self.assertIs(type(result), str)
            self.assertEqual(result, counted_result(votes, quotas))
            results.add(result in board.rows)
        self.assertEqual(results, {True, False})

    def test_votes_just_at_the_quota_and_one_less(self):
        board = Board("0", "1")
        for n in (1, 2, 15, 30):
            for quota in range(1, n + 1):
                for many in (quota - 1, quota):
                    votes = ("1",) * many + ("0",) * (n - many)
                    self.assertEqual(Rule(board, n, (quota,))(votes), "1" if many == quota else "0")


class VetoRule(unittest.TestCase):
    def test_example(self):
        board = Board(*EXAMPLE)
        self.assertEqual([Veto(board, 3, (2, 2, 2), voter)(VOTES) for voter in (1, 2, 3)], ["010", "100", "110"])
        self.assertEqual(Veto(board, 3, (2, 2, 2))(VOTES), "010")

    def test_each_voter(self):
        for board, n, quotas, votes in drawn_cases(61, 1, 2):
            plain = counted_result(votes, quotas)
            self.assertEqual(Veto(board, n, quotas)(votes), vetoed(plain, votes[0]))
            for voter in range(1, n + 1):
                self.assertEqual(Veto(board, n, quotas, voter)(votes), vetoed(plain, votes[voter - 1]))

    def test_yes_of_the_voter_is_not_enough(self):
        self.assertEqual(Veto(Board("0", "1"), 3, (2,))(("1", "0", "0")), "0")


class DefaultRule(unittest.TestCase):
    def test_example(self):
        board = Board(*EXAMPLE)
        self.assertEqual(Default(board, 3, (2, 2, 2))(VOTES), "000")
        for row in EXAMPLE:
            self.assertEqual(Default(board, 3, (2, 2, 2), row)(VOTES), row)
            self.assertEqual(Default(board, 3, (2, 2, 1), row)(VOTES), "111")

    def test_left_out_and_none_are_the_first_row(self):
        board = Board("11", "01", "10")
        for rule in (Default(board, 2, (2, 2)), Default(board, 2, (2, 2), None), Default(board, 2, (2, 2), row=None)):
            self.assertEqual(rule(("01", "10")), "01")

    def test_drawn_votes(self):
        draw = Random(62)
        for board, n, quotas, votes in drawn_cases(62):
            row, plain = draw.choice(board.rows), counted_result(votes, quotas)
            self.assertEqual(Default(board, n, quotas, row)(votes), plain if plain in board.rows else row)
            self.assertEqual(Default(board, n, quotas)(votes), plain if plain in board.rows else min(board.rows))


class VetoDefaultRule(unittest.TestCase):
    def test_first_the_veto_then_the_default_row(self):
        board = Board("001", "011", "101", "110")
        votes = ("110", "011", "101")
        # What is decided without the veto, 111, is not feasible: a default row before the veto would be in the way.
        self.assertEqual(Rule(board, 3, (2, 2, 2))(votes), "111")
        self.assertEqual(VetoDefault(board, 3, (2, 2, 2), 1, "001")(votes), "110")
        # The veto makes 000 of the feasible row 011, which is not feasible: the default row comes behind.
        votes = ("110", "001", "001")
        self.assertEqual(VetoDefault(board, 3, (2, 2, 2), 1, "101")(votes), "101")
        self.assertEqual(VetoDefault(board, 3, (2, 2, 2))(votes), "001")

    def test_drawn_votes(self):
        draw = Random(63)
        changed = 0
        for board, n, quotas, votes in drawn_cases(63):
            row, voter = draw.choice(board.rows), draw.randint(1, n)
            plain = vetoed(counted_result(votes, quotas), votes[voter - 1])
            self.assertEqual(VetoDefault(board, n, quotas, voter, row)(votes), plain if plain in board.rows else row)
            first = vetoed(counted_result(votes, quotas), votes[0])
            expected = first if first in board.rows else min(board.rows)
            self.assertEqual(VetoDefault(board, n, quotas)(votes), expected)
            self.assertEqual(VetoDefault(board, n, quotas, 1, None)(votes), expected)
            changed += expected != counted_result(votes, quotas)
        self.assertGreater(changed, 50)


class PremisesRule(unittest.TestCase):
    def test_example(self):
        board = Board(*EXAMPLE)
        self.assertEqual(PremiseRule(board, 3, (2, 2, 2))(VOTES), "111")
        self.assertEqual(PremiseRule(board, 3, (3, 2, 1))(VOTES), "010")

    def test_drawn_votes(self):
        tried = 0
        for board, n, quotas, votes in drawn_cases(64, 12):
            if premises(board) is None:
                continue
            tried += 1
            result = PremiseRule(board, n, quotas)(votes)
            self.assertIn(result, board.rows)
            self.assertEqual(result, premise_result(board, quotas, votes))
        self.assertGreater(tried, 100)

    def test_quotas_of_other_issues_have_no_effect(self):
        board = Board(*EXAMPLE)
        for n in (1, 3, 8):
            draw = Random(65)
            votes = drawn_votes(draw, board, n)
            for first, second in product(range(1, n + 1), repeat=2):
                found = {PremiseRule(board, n, (first, second, third))(votes) for third in range(1, n + 1)}
                self.assertEqual(found, {premise_result(board, (first, second, 1), votes)})

    def test_one_row(self):
        self.assertEqual(PremiseRule(Board("0110"), 2, (1, 2, 1, 2))(("0110", "0110")), "0110")

    def test_board_without_premises(self):
        for board in (Board("00", "01", "10"), Board("0000", "0001", "0010", "0100")):
            with self.assertRaises(NoneError):
                PremiseRule(board, 3, (2,) * board.issues)


class WrongArguments(unittest.TestCase):
    def test_votes_that_are_no_votes(self):
        for board, n, quotas in (
            (Board(*EXAMPLE), 3, (2, 2, 2)), (Board("0"), 1, (1,)), (Board("01", "10"), 2, (1, 1)),
            (Board("1" * 6), 30, (30,) * 6),
        ):
            good = tuple(board.rows[k % len(board.rows)] for k in range(1, n + 1))
            for kind in CLASSES:
                rule = kind(board, n, quotas)
                before = rule(good)
                for votes in no_texts() + wrong_votes(board, good):
                    with self.subTest(kind=kind, votes=votes), self.assertRaises(VotesError):
                        rule(votes)
                self.assertEqual(rule(good), before)

    def test_wrong_voters(self):
        for n in (1, 3, 30):
            for voter in outside(1, n):
                for kind in (Veto, VetoDefault):
                    with self.subTest(n=n, voter=voter), self.assertRaises(NumberError):
                        kind(Board(*EXAMPLE), n, (1, 1, n), voter)
                # The number is checked ahead of the row.
                with self.subTest(n=n, voter=voter), self.assertRaises(NumberError):
                    VetoDefault(Board(*EXAMPLE), n, (1, 1, n), voter, "110")

    def test_wrong_rows(self):
        board = Board(*EXAMPLE)
        rows = ["", "00", "0000", "000 ", "-00", "001", "110", board.text(), board]
        for row in rows + [value for value in no_texts() if value is not None]:
            with self.subTest(row=row), self.assertRaises(RowsError):
                Default(board, 3, (2, 2, 2), row)
            for voter in (1, 3):
                with self.subTest(row=row), self.assertRaises(RowsError):
                    VetoDefault(board, 3, (2, 2, 2), voter, row)


class GeneralRules(unittest.TestCase):
    def test_rules_do_not_change(self):
        for board, n, quotas, votes in drawn_cases(66, 1, 1):
            for kind in CLASSES:
                if kind is PremiseRule and premises(board) is None:
                    continue
                rule = kind(board, n, quotas)
                first, told = rule(votes), rule.describe()
                with self.assertRaises(VotesError):
                    rule(votes[1:])
                rule((board.rows[0],) * n)
                self.assertEqual((rule(votes), rule.describe()), (first, told))

    def test_rule_is_equal_to_itself(self):
        for kind in CLASSES:
            rule = kind(Board(*EXAMPLE), 3, (2, 2, 2))
            self.assertTrue(rule == rule)
            self.assertFalse(rule != rule)

    def test_list_of_votes_stays(self):
        votes = ["010", "100", "111"]
        with self.assertRaises(VotesError):
            Rule(Board(*EXAMPLE), 3, (2, 2, 2))(votes)
        self.assertEqual(votes, ["010", "100", "111"])

    def test_6_issues_and_30_voters_take_little_time(self):
        draw = Random(67)
        board = Board(*texts(6))
        start = perf_counter()
        for kind in CLASSES:
            rule = kind(board, 30, drawn_quotas(draw, board, 30))
            for _ in range(200):
                rule(drawn_votes(draw, board, 30))
        self.assertLess(perf_counter() - start, 5)


if __name__ == "__main__":
    unittest.main()
