"""How many houses or seats there can be, and which one of them is meant."""

from doneranges.errors import NoHouse
from doneranges.rows import is_number

LEAST_HOUSES = 2
MOST_HOUSES = 6


def check_many(many):
    """Refuse other than two to six."""
    if not is_number(many, LEAST_HOUSES, MOST_HOUSES):
        raise NoHouse("there are two to six")


def check_one_of(which, many):
    """Refuse one that isn't among so many."""
    if not is_number(which, 0, many - 1):
        raise NoHouse("there is no such one")
