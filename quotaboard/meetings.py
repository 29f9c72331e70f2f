"""Meetings: votes that are given, changed and taken back one after the other."""

from quotaboard.ballots import check_ballot, check_quotas, check_voter, decided_row
from quotaboard.checks import is_integer
from quotaboard.errors import NothingError, NumberError, RowsError


class Absence:
    """The block of a with statement, in which some voters of a meeting are not present."""

    def __init__(self, meeting, voters):
        self.meeting = meeting
        self.voters = voters
        self.lasts = False

    def __enter__(self):
        meeting = self.meeting
        # Blocks that have ended are dropped here, because leaving a block only marks it.
        meeting.blocks = [block for block in meeting.blocks if block.lasts] + [self]
        self.lasts = True
        return self

    def __exit__(self, kind, value, trace):
        self.lasts = False


class Meeting:
    """The votes of n voters on a board, with quotas that can be changed."""

    def __init__(self, board, n, quotas):
        check_ballot(board, n, quotas)
        self.board = board
        self.needed = quotas
        self.votes = (None,) * n
        self.states = []
        self.blocks = []

    @property
    def quotas(self):
        """The quotas of the issues."""
        return self.needed

    @quotas.setter
    def quotas(self, value):
        self.assign_quotas(value)

    @property
    def result(self):
        """The row that the votes of those present decide."""
        return present_result(self, ())

    @property
    def is_feasible(self):
        """Whether the result is a feasible row."""
        return present_result(self, ()) in self.board

    @property
    def voted(self):
        """The voters who have voted, ascending."""
        return tuple([voter for voter, row in enumerate(self.votes, start=1) if row is not None])

    @property
    def changes(self):
        """The number of votes, withdrawals and assignments that have not been taken back."""
        return len(self.states)

    def vote(self, voter, row):
        """Let the voter vote, also in place of an earlier vote."""
        check_voter(len(self.votes), voter)
        if row not in self.board:
            raise RowsError("a vote is a feasible row of the board")
        self.change(with_vote(self.votes, voter, row), self.needed)

    def withdraw(self, voter):
        """Take back the vote of the voter."""
        if not is_integer(voter, 1, len(self.votes)) or self.votes[voter - 1] is None:
            raise NumberError("only a voter who has voted can withdraw the vote")
        self.change(with_vote(self.votes, voter, None), self.needed)

    def assign_quotas(self, quotas):
        """Replace the quotas."""
        check_quotas(self.board, len(self.votes), quotas)
        self.change(self.votes, quotas)

    def undo(self):
        """Take back the last vote, withdrawal or assignment that has not been taken back."""
        if not self.states:
            raise NothingError("there is nothing to take back")
        self.votes, self.needed = self.states.pop()

    def absent(self, *voters):
        """Return an object for one with statement, in whose block the voters are not present."""
        check_different(len(self.votes), voters)
        return Absence(self, voters)

    def result_without(self, *voters):
        """Return what the result is in a block in which the voters are not present."""
        check_different(len(self.votes), voters)
        return present_result(self, voters)

    def change(self, votes, quotas):
        """Take over the votes and quotas, and keep those before for undo."""
        self.states.append((self.votes, self.needed))
        self.votes, self.needed = votes, quotas


def present_result(meeting, voters):
    """Return the row that the votes decide without these voters and those who are absent anyhow."""
    away = [voter for block in meeting.blocks if block.lasts for voter in block.voters]
    votes = [
        row for voter, row in enumerate(meeting.votes, start=1)
        if row is not None and voter not in away and voter not in voters
    ]
    return decided_row(votes, meeting.needed)


def with_vote(votes, voter, row):
    """Return the votes with this row for the voter."""
    return votes[:voter - 1] + (row,) + votes[voter:]


def check_different(n, voters):
    """Raise NumberError unless these are different ones of n voters."""
    for voter in voters:
        check_voter(n, voter)
    if len(set(voters)) != len(voters):
        raise NumberError("the voters are different ones")
