"""Checks of arguments that several modules share."""

from quotaboard.errors import VotersError

MOST_VOTERS = 30


def is_integer(value, low, high):
    """Tell whether the value is an integer from low to high."""
    # Python counts True and False among the integers, the document does not.
    return isinstance(value, int) and not isinstance(value, bool) and low <= value <= high


def is_text(value, length, signs):
    """Tell whether the value is a text of this length with no other signs than these."""
    return isinstance(value, str) and len(value) == length and all([sign in signs for sign in value])


def check_voters(n):
    """Raise VotersError unless n is a number of voters."""
    if not is_integer(n, 1, MOST_VOTERS):
        raise VotersError(f"a number of voters is an integer from 1 to {MOST_VOTERS}")
