"""What both machines and their runs have in common: ends and numbers of steps."""

from leastimage.errors import Ended, InvalidNumber
from leastimage.words import is_number

MOST_FRAMES = 30
MOST_RUN_ROWS = 2000


def check_running(word):
    """Refuses what only a run can do that has not ended with a word."""
    if word != "":
        raise Ended()


def check_most(value, least, most):
    """Refuses what is no number of steps from least to most."""
    if not is_number(value, least, most):
        raise InvalidNumber(value)


def told_end(word):
    """The word of an end, or the one for a run without an end."""
    if word == "":
        return "running"
    return word
