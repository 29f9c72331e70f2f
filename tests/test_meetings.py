"""Tests of quotaboard.meetings: points 60 and 61, and points 2 and 3."""

import unittest
from inspect import signature
from itertools import permutations
from random import Random
from time import perf_counter

from quotaboard import meetings as module
from quotaboard.boards import Board
from quotaboard.errors import NothingError, NumberError, QuotasError, RowsError
from quotaboard.meetings import Meeting
from tests.samples import (
    EXAMPLE, counted_result, drawn_boards, drawn_quotas, no_texts, outside, texts, wrong_quotas,
)


class Ended(Exception):
    """Leaves a block of a with statement."""


class Model:
    """What a meeting is like: votes, quotas, the states before, and who is absent in the blocks around."""

    def __init__(self, board, n, quotas):
        self.board, self.n, self.quotas = board, n, quotas
        self.votes, self.before, self.away = {}, [], []

    def keep(self):
        self.before.append((dict(self.votes), self.quotas))

    def result(self, more=()):
        absent = set(more).union(*self.away)
        return counted_result([row for voter, row in self.votes.items() if voter not in absent], self.quotas)


class Pair:
    """A meeting and its model, to which the same is done."""

    def __init__(self, case, draw, board, n):
        self.case, self.draw = case, draw
        quotas = drawn_quotas(draw, board, n)
        self.meeting, self.model = Meeting(board, n, quotas), Model(board, n, quotas)

    def compare(self):
        meeting, model = self.meeting, self.model
        self.case.assertEqual(meeting.quotas, model.quotas)
        self.case.assertEqual(meeting.voted, tuple(sorted(model.votes)))
        self.case.assertEqual(meeting.changes, len(model.before))
        self.case.assertEqual(meeting.result, model.result())
        self.case.assertIs(meeting.is_feasible, model.result() in model.board.rows)
        some = self.voters()
        self.case.assertEqual(meeting.result_without(*some), model.result(some))

    def voters(self):
        return tuple(self.draw.sample(range(1, self.model.n + 1), self.draw.randint(0, self.model.n)))

    def vote(self):
        voter, row = self.draw.randint(1, self.model.n), self.draw.choice(self.model.board.rows)
        if self.draw.random() < 0.2:
            row = self.model.votes.get(voter, row)
        self.model.keep()
        self.model.votes[voter] = row
        self.case.assertIsNone(self.meeting.vote(voter, row))

    def withdraw(self):
        voter = self.draw.randint(1, self.model.n)
        if voter not in self.model.votes:
            with self.case.assertRaises(NumberError):
                self.meeting.withdraw(voter)
            return
        self.model.keep()
        del self.model.votes[voter]
        self.case.assertIsNone(self.meeting.withdraw(voter))

    def assign(self):
        quotas = drawn_quotas(self.draw, self.model.board, self.model.n)
        if self.draw.random() < 0.2:
            quotas = self.model.quotas
        self.model.keep()
        self.model.quotas = quotas
        if self.draw.random() < 0.5:
            self.meeting.quotas = quotas
        else:
            self.case.assertIsNone(self.meeting.assign_quotas(quotas))

    def undo(self):
        for _ in range(self.draw.choice((1, 1, 2, 5))):
            if not self.model.before:
                with self.case.assertRaises(NothingError):
                    self.meeting.undo()
                return
            self.model.votes, self.model.quotas = self.model.before.pop()
            self.case.assertIsNone(self.meeting.undo())

    def wrong(self):
        meeting, n, row = self.meeting, self.model.n, self.model.board.rows[0]
        voter = self.draw.choice(outside(1, n))
        call, kind = self.draw.choice((
            (lambda: meeting.vote(voter, row), NumberError),
            (lambda: meeting.vote(voter, None), NumberError),
            (lambda: meeting.vote(1, row + "0"), RowsError),
            (lambda: meeting.vote(n, [row]), RowsError),
            (lambda: meeting.withdraw(voter), NumberError),
            (lambda: meeting.assign_quotas(self.draw.choice(wrong_quotas(meeting.quotas, n))), QuotasError),
            (lambda: setattr(meeting, "quotas", self.draw.choice(wrong_quotas(meeting.quotas, n))), QuotasError),
            (lambda: meeting.absent(voter), NumberError),
            (lambda: meeting.result_without(1, voter), NumberError),
            (lambda: meeting.absent(1, 1), NumberError),
        ))
        with self.case.assertRaises(kind):
            call()

    def block(self, deep):
        some = self.voters()
        held = self.meeting.absent(*some)
        self.compare()
        try:
            with held:
                self.model.away.append(some)
                self.steps(self.draw.randint(0, 4), deep + 1)
                if self.draw.random() < 0.3:
                    raise Ended
        except Ended:
            pass
        self.model.away.pop()

    def steps(self, many, deep=0):
        actions = [self.vote] * 5 + [self.withdraw] * 2 + [self.assign, self.wrong, self.undo]
        for _ in range(many):
            self.compare()
            if deep < 4 and self.draw.random() < 0.15:
                self.block(deep)
            else:
                self.draw.choice(actions)()
        self.compare()


def started(*rows, quotas=(2, 2, 2)):
    """Return a meeting of three voters on the example's board, with these votes."""
    meeting = Meeting(Board(*EXAMPLE), 3, quotas)
    for voter, row in enumerate(rows, start=1):
        meeting.vote(voter, row)
    return meeting


def state(meeting):
    """Return all that a meeting tells of itself."""
    return meeting.quotas, meeting.result, meeting.is_feasible, meeting.voted, meeting.changes


class Interface(unittest.TestCase):
    def test_members_stand_in_the_class(self):
        self.assertEqual(Meeting.__module__, module.__name__)
        self.assertEqual(str(signature(Meeting)), "(board, n, quotas)")
        own = vars(Meeting)
        for name in ("quotas", "result", "is_feasible", "voted", "changes"):
            self.assertIsInstance(own[name], property)
        for name, arguments in (
            ("vote", "(self, voter, row)"), ("withdraw", "(self, voter)"), ("assign_quotas", "(self, quotas)"),
            ("undo", "(self)"), ("absent", "(self, *voters)"), ("result_without", "(self, *voters)"),
        ):
            self.assertEqual(str(signature(own[name])), arguments)

    def test_only_quotas_can_be_assigned(self):
        meeting = started("111")
        for name in ("result", "is_feasible", "voted", "changes"):
            before = state(meeting)
            with self.assertRaises(AttributeError):
                setattr(meeting, name, before[1])
            self.assertEqual(state(meeting), before)

    def test_kinds_of_values(self):
        for meeting in (started(), started("111", "111")):
            self.assertEqual([type(value) for value in state(meeting)], [tuple, str, bool, tuple, int])
            self.assertIs(type(meeting.result_without(1)), str)


class Voting(unittest.TestCase):
    def test_at_first_nobody_has_voted(self):
        for board in drawn_boards(70, 2):
            for n in (1, 2, 30):
                for quota in (1, n):
                    meeting = Meeting(board, n, (quota,) * board.issues)
                    nothing = "0" * board.issues
                    expected = ((quota,) * board.issues, nothing, nothing in board.rows, (), 0)
                    self.assertEqual(state(meeting), expected)

    def test_example(self):
        meeting = started("010", "100")
        self.assertEqual(state(meeting), ((2, 2, 2), "000", True, (1, 2), 2))
        meeting.vote(3, "111")
        self.assertEqual(state(meeting), ((2, 2, 2), "110", False, (1, 2, 3), 3))

    def test_quota_stays_when_few_have_voted(self):
        meeting = Meeting(Board("0", "1"), 30, (15,))
        for voter in range(30, 15, -1):
            self.assertEqual((meeting.result, meeting.voted), ("0", tuple(range(voter + 1, 31))))
            meeting.vote(voter, "1")
        self.assertEqual((meeting.result, meeting.changes), ("1", 15))

    def test_vote_in_place_of_an_earlier_one(self):
        meeting = started("111", "111")
        meeting.vote(1, "000")
        self.assertEqual(state(meeting), ((2, 2, 2), "000", True, (1, 2), 3))
        meeting.vote(1, "000")
        self.assertEqual(state(meeting), ((2, 2, 2), "000", True, (1, 2), 4))

    def test_withdraw(self):
        meeting = started("111", "111", "100")
        meeting.withdraw(2)
        self.assertEqual(state(meeting), ((2, 2, 2), "100", True, (1, 3), 4))
        before = state(meeting)
        with self.assertRaises(NumberError):
            meeting.withdraw(2)
        self.assertEqual(state(meeting), before)
        meeting.vote(2, "111")
        self.assertEqual(meeting.result, "111")

    def test_assign_quotas_by_attribute_and_by_method(self):
        meeting = started("010", "100", "111")
        meeting.quotas = (3, 3, 1)
        self.assertEqual(state(meeting), ((3, 3, 1), "001", False, (1, 2, 3), 4))
        meeting.assign_quotas((3, 3, 3))
        self.assertEqual(state(meeting), ((3, 3, 3), "000", True, (1, 2, 3), 5))
        meeting.quotas = (3, 3, 3)
        self.assertEqual(meeting.changes, 6)

    def test_two_meetings_do_not_share_anything(self):
        board = Board(*EXAMPLE)
        first, second = Meeting(board, 3, (1, 1, 1)), Meeting(board, 3, (1, 1, 1))
        first.vote(1, "111")
        with first.absent(2):
            self.assertEqual(state(second), ((1, 1, 1), "000", True, (), 0))
            second.vote(2, "100")
            self.assertEqual((first.result, second.result), ("111", "100"))


class Undo(unittest.TestCase):
    def test_each_change_is_taken_back(self):
        meeting = started()
        seen = [state(meeting)]
        for change in (
            lambda: meeting.vote(1, "111"), lambda: meeting.vote(1, "111"), lambda: meeting.vote(2, "100"),
            lambda: meeting.withdraw(1), lambda: setattr(meeting, "quotas", (1, 1, 1)), lambda: meeting.vote(3, "010"),
            lambda: meeting.assign_quotas((1, 1, 1)), lambda: meeting.vote(2, "000"), lambda: meeting.withdraw(2),
        ):
            change()
            seen.append(state(meeting))
        self.assertEqual(meeting.changes, 9)
        while len(seen) > 1:
            self.assertEqual(state(meeting), seen.pop())
            self.assertIsNone(meeting.undo())
        self.assertEqual(state(meeting), seen[0])

    def test_nothing_to_take_back(self):
        meeting = started()
        for _ in range(2):
            with self.assertRaises(NothingError):
                meeting.undo()
        meeting.vote(1, "111")
        meeting.undo()
        with self.assertRaises(NothingError):
            meeting.undo()
        self.assertEqual(state(meeting), ((2, 2, 2), "000", True, (), 0))

    def test_changes_after_undo(self):
        meeting = started("111", "111")
        meeting.undo()
        meeting.vote(3, "100")
        self.assertEqual(state(meeting), ((2, 2, 2), "100", True, (1, 3), 2))
        meeting.undo()
        meeting.undo()
        self.assertEqual(state(meeting), ((2, 2, 2), "000", True, (), 0))

    def test_undo_in_a_block(self):
        meeting = started("111", "111")
        with meeting.absent(3):
            meeting.vote(3, "111")
            meeting.undo()
            meeting.undo()
            self.assertEqual((meeting.result, meeting.voted, meeting.changes), ("000", (1,), 1))
        self.assertEqual((meeting.result, meeting.voted, meeting.changes), ("000", (1,), 1))


class Absent(unittest.TestCase):
    def test_none_some_and_all_in_any_order(self):
        meeting = started("111", "111", "100", quotas=(2, 2, 1))
        for some, result in (
            ((), "111"), ((1,), "101"), ((2,), "101"), ((3,), "111"), ((1, 2), "000"), ((1, 3), "001"), ((2, 3), "001"),
            ((1, 2, 3), "000"),
        ):
            for voters in permutations(some):
                self.assertEqual(meeting.result_without(*voters), result)
                with meeting.absent(*voters):
                    self.assertEqual(meeting.result, result)
                    self.assertIs(meeting.is_feasible, result in EXAMPLE)
                    self.assertEqual((meeting.voted, meeting.changes), ((1, 2, 3), 3))
                self.assertEqual(meeting.result, "111")

    def test_blocks_within_blocks(self):
        meeting = started("111", "111", "111", quotas=(1, 2, 3))
        with meeting.absent(2):
            self.assertEqual(meeting.result, "110")
            with meeting.absent():
                self.assertEqual(meeting.result, "110")
                with meeting.absent(3, 2):
                    self.assertEqual((meeting.result, meeting.result_without(1)), ("100", "000"))
                self.assertEqual(meeting.result_without(3), "100")
            with meeting.absent(1), meeting.absent(3):
                self.assertEqual(meeting.result, "000")
            self.assertEqual(meeting.result, "110")
        self.assertEqual(meeting.result, "111")

    def test_object_made_before_its_block(self):
        meeting = started("111", "111")
        first, second = meeting.absent(1), meeting.absent(2)
        self.assertEqual(meeting.result, "111")
        with second:
            self.assertEqual(meeting.result_without(3), "000")
            with first:
                self.assertEqual(meeting.result, "000")
        self.assertEqual(meeting.result, "111")

    def test_votes_and_quotas_in_a_block_are_kept(self):
        meeting = started("111")
        with meeting.absent(1, 2):
            meeting.vote(2, "111")
            meeting.vote(3, "100")
            self.assertEqual((meeting.result, meeting.voted, meeting.changes), ("000", (1, 2, 3), 3))
            meeting.quotas = (1, 1, 2)
            self.assertEqual(meeting.result, "100")
            meeting.withdraw(1)
            self.assertEqual((meeting.result, meeting.voted), ("100", (2, 3)))
        self.assertEqual(state(meeting), ((1, 1, 2), "110", False, (2, 3), 5))

    def test_block_left_by_an_exception(self):
        meeting = started("111", "111")
        with self.assertRaises(Ended):
            with meeting.absent(1):
                with meeting.absent(2):
                    meeting.vote(3, "111")
                    self.assertEqual(meeting.result, "000")
                    raise Ended
        self.assertEqual((meeting.result, meeting.voted), ("111", (1, 2, 3)))
        with self.assertRaises(RowsError):
            with meeting.absent(1):
                meeting.vote(1, "110")
        self.assertEqual(meeting.result, "111")

    def test_block_left_by_return_and_break(self):
        meeting = started("111", "111")

        def asked():
            with meeting.absent(1):
                return meeting.result

        for _ in range(2):
            with meeting.absent(2):
                break
        self.assertEqual((asked(), meeting.result), ("000", "111"))

    def test_wrong_voters(self):
        for n in (1, 3, 30):
            meeting = Meeting(Board(*EXAMPLE), n, (1, 1, 1))
            meeting.vote(1, "111")
            before = state(meeting)
            lists = [(value,) for value in outside(1, n)] + [(1, value) for value in outside(1, n)]
            lists += [(value, 1) for value in outside(1, n)] + [(1, 1), (n, n), (1, n, 1), (n, 1, n), (1, True)]
            for voters in lists:
                with self.subTest(n=n, voters=voters), self.assertRaises(NumberError):
                    meeting.absent(*voters)
                with self.subTest(n=n, voters=voters), self.assertRaises(NumberError):
                    meeting.result_without(*voters)
            self.assertEqual(state(meeting), before)

    def test_result_without_changes_nothing(self):
        meeting = started("111", "111")
        before = state(meeting)
        self.assertEqual(meeting.result_without(2), "000")
        self.assertEqual(meeting.result_without(2), "000")
        self.assertEqual(state(meeting), before)


class WrongCalls(unittest.TestCase):
    def refused(self, meeting, kind, call):
        """Expect the exception, and that the meeting is as before."""
        before = state(meeting)
        with self.assertRaises(kind):
            call()
        self.assertEqual(state(meeting), before)

    def test_wrong_votes(self):
        for meeting in (started(), started("111", "010", "100")):
            for voter in outside(1, 3):
                for row in ("111", "110", "", None):
                    self.refused(meeting, NumberError, lambda: meeting.vote(voter, row))
            for row in no_texts() + ["", "110", "-11", "11", "0000", "000 ", meeting]:
                self.refused(meeting, RowsError, lambda: meeting.vote(1, row))

    def test_wrong_withdrawals(self):
        meeting = started("111")
        for voter in outside(1, 3) + [2, 3]:
            self.refused(meeting, NumberError, lambda: meeting.withdraw(voter))
        meeting.withdraw(1)
        self.refused(meeting, NumberError, lambda: meeting.withdraw(1))

    def test_wrong_quotas(self):
        for n in (1, 3, 30):
            meeting = Meeting(Board(*EXAMPLE), n, (1, n, 1))
            meeting.vote(n, "010")
            for quotas in wrong_quotas((1, n, 1), n):
                self.refused(meeting, QuotasError, lambda: meeting.assign_quotas(quotas))
                self.refused(meeting, QuotasError, lambda: setattr(meeting, "quotas", quotas))

    def test_list_of_quotas_stays(self):
        meeting, quotas = started(), [1, 1, 1]
        self.refused(meeting, QuotasError, lambda: meeting.assign_quotas(quotas))
        self.assertEqual(quotas, [1, 1, 1])


class LongRuns(unittest.TestCase):
    def test_against_the_model(self):
        draw = Random(71)
        for board in drawn_boards(71, 3):
            for n in (1, 3, draw.randint(2, 8), 30):
                Pair(self, draw, board, n).steps(60)

    def test_one_long_run(self):
        draw = Random(72)
        Pair(self, draw, Board(*EXAMPLE), 5).steps(3000)

    def test_many_changes_and_blocks_take_little_time(self):
        draw = Random(73)
        rows = texts(6)
        meeting = Meeting(Board(*rows), 30, (15,) * 6)
        start = perf_counter()
        for _ in range(3000):
            with meeting.absent(draw.randint(1, 30)):
                meeting.vote(draw.randint(1, 30), draw.choice(rows))
                self.assertEqual(len(meeting.result), 6)
        for _ in range(3000):
            meeting.undo()
        self.assertEqual((meeting.changes, meeting.voted), (0, ()))
        self.assertLess(perf_counter() - start, 10)


class GeneralRules(unittest.TestCase):
    def test_meeting_is_equal_to_itself(self):
        meeting = started("111")
        self.assertTrue(meeting == meeting)
        self.assertFalse(meeting != meeting)

    def test_equal_answers_when_asked_again(self):
        for meeting in (started(), started("111", "111", "100")):
            self.assertEqual(state(meeting), state(meeting))
            self.assertEqual(meeting.result_without(1, 3), meeting.result_without(1, 3))

    def test_board_stays(self):
        board = Board(*EXAMPLE)
        Pair(self, Random(74), board, 4).steps(50)
        self.assertEqual(board.rows, EXAMPLE)


if __name__ == "__main__":
    unittest.main()
