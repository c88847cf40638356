"""Rows: how many sets of each size a family can have."""

from shadowrow.answers import Barred, Can
from shadowrow.checks import GREATEST_SIZE, is_row
from shadowrow.counts import over
from shadowrow.errors import BadRow
from shadowrow.excess import first_excess
from shadowrow.sets import number_of


def check_row(row):
    """Refuse what is no row."""
    # The messages name nothing that was handed in, so that no error keeps it.
    if not is_row(row):
        raise BadRow("a row is a list of at most 20 counts, whole numbers, 0 or more")


def check_family(row):
    """Refuse what is no row, and a row that no family has."""
    check_row(row)
    if first_excess(row) is not None:
        raise BadRow("no family has that row: of a size there are more than can be")


def told(row):
    """Tell a Can, or a Barred with the least size of which there are too many, and the most that there can be."""
    check_row(row)
    excess = first_excess(row)
    if excess is None:
        return Can()
    size, can_be = excess
    return Barred(size, can_be)


def has(row, some):
    """Tell whether the family that has of each size the first so many sets has the set."""
    check_family(row)
    number = number_of(some)
    # Every family has the set of size 0, of which no row tells.
    if some == []:
        return True
    return len(some) <= len(row) and number < row[len(some) - 1]


def most(row):
    """Tell how many sets of the next size there can be, behind a row."""
    check_family(row)
    if not 1 <= len(row) < GREATEST_SIZE:
        raise BadRow("a row that goes on has from 1 to 19 counts")
    return over(len(row), row[-1])
